import Derived.Deep.RegionHeld3
import Derived.Test.YtfhfiaphdgfmnaaDoorLev
namespace Go.Proofs.YtfhfiaphdgfmnaaDoor
open Go.RowKit
set_option maxRecDepth 100000
set_option linter.unusedVariables false
set_option linter.unusedSimpArgs false
theorem info_i64 : (Tryd.prog.info? 2).map (fun i => (i.zero, i.size, i.bytes)) = some (some (.int .i64 0), 1, 8) := by kernel_rfl
def ivals (l : List Nat) : List Value := l.map fun (i : Nat) => Value.int .i64 (i : Int)
theorem ivals_app (l m : List Nat) : ivals (l ++ m) = ivals l ++ ivals m := by simp [ivals]
/-- the first c cells of a row of numbers are marked, from k -/
def mkI (f : Nat → Value) (k : Int) (c i : Nat) : Value := if i < c then .int .i64 (k + i) else f i
theorem mkI_0 (f : Nat → Value) (k : Int) (N : Nat) : vrow N (mkI f k 0) = vrow N f := vrow_ext _ _ _ fun i _ => by unfold mkI; rw [if_neg (by omega)]
theorem mkI_step (f : Nat → Value) (k z : Int) (N c : Nat) (hz : z = k + c) : vrow N (over (mkI f k c) c 1 fun _ => .int .i64 z) = vrow N (mkI f k (c + 1)) := vrow_ext _ _ _ fun i _ => by
  unfold over mkI
  by_cases h : i = c
  · rw [if_pos (by omega), if_pos (by omega), h, hz]
  · rw [if_neg (by omega)]
    by_cases h2 : i < c
    · rw [if_pos h2, if_pos (by omega)]
    · rw [if_neg h2, if_neg (by omega)]
theorem mkI_at (f : Nat → Value) (k : Int) (c i : Nat) (h : i < c) : mkI f k c i = .int .i64 (k + i) := by unfold mkI; rw [if_pos h]
set_option maxHeartbeats 2000000 in
theorem markI_any (D n cap N : Nat) (f : Nat → Value) (k : Int) (w : World) (hn : n ≤ 1048576) (hN : n ≤ N) (hk : 0 ≤ k ∧ k ≤ 1048576) (h1 : w.heap[D]? = some (.cells (vrow N f) 2)) : Calls Tryd.prog 30 #[.slice (some ⟨D, 0, none⟩) n cap, .int .i64 k] w fun e w' => e = .returned (.int .i64 (k + n)) ∧ w' = w.setRow D (vrow N (mkI f k n)) := by
  have R := Go.Lib.hid h1
  have hD := row_lt h1
  have E : Hid (w = w.setRow D (vrow N (mkI f k 0))) := Go.Lib.hid (by rw [mkI_0]; exact (setRow_selfK h1).symm)
  clear h1
  go_enter Tryd.func30, Tryd.ntmps30
  go_wp2
  go_loopw [1, 5] (fun kv iv wr => ∃ j : Nat, j ≤ n ∧ iv = .int .i64 j ∧ kv = .int .i64 (k + j) ∧ wr = w.setRow D (vrow N (mkI f k j))) (fun _ iv _ => n - (intOf iv).toNat)
  case atStart => exact ⟨0, by omega, rfl, by simp, E.out⟩
  case round =>
    obtain ⟨j, hj, rfl, rfl, rfl⟩ := hrel
    have R2 := Go.Lib.hid (row_set R.out (vrow N (mkI f k j)))
    by_cases hlt : j < n
    · have hkI : (j : Int) < n := by omega
      have hnl : (n : Int) ≤ 1048576 := by omega
      have hw : ∀ m : Int, 0 ≤ m → m ≤ 4000000 → IntKind.i64.wrap m = m := fun m h1 h2 => IntWalk.i64_in m (by omega)
      go_wp2_with (first
        | go_skip
        | ((with_reducible refine wlOp (.store 2 (.tmp 15) (.tmp 14)) rfl ?_); refine wpList_store1 rfl 2 (.tmp 15) (.tmp 14) rfl D j rfl N (mkI f k j) (.int .i64 (k + j)) rfl 2 size_i64c R2.out (by omega) rfl ?_; rw [setRow_twiceK, mkI_step f k (k + j) N j rfl]))
      go_roundw
      case rel => exact ⟨j + 1, by omega, by go_num, by go_num, rfl⟩
      case measure => simp [intOf]; omega
    · obtain rfl : j = n := by omega
      have hd : decide ((j : Int) < (j : Int)) = false := by simp
      go_wp2
      go_ret
      exact ⟨rfl, rfl⟩
set_option maxHeartbeats 2000000 in
theorem heldI_any (D n cap N : Nat) (f : Nat → Value) (k : Int) (w : World) (hn : n ≤ 1048576) (hN : n ≤ N) (hk : 0 ≤ k ∧ k ≤ 1048576) (h1 : w.heap[D]? = some (.cells (vrow N (mkI f k n)) 2)) : Calls Tryd.prog 31 #[.slice (some ⟨D, 0, none⟩) n cap, .int .i64 k] w fun e w' => e = .returned (.int .i64 (k + n)) ∧ Below w.heap.size w w' := by
  have R := Go.Lib.hid h1
  clear h1
  go_enter Tryd.func31, Tryd.ntmps31
  go_wp2
  go_loopw [1, 5] (fun kv iv wr => ∃ j : Nat, j ≤ n ∧ iv = .int .i64 j ∧ kv = .int .i64 (k + j) ∧ wr = w) (fun _ iv _ => n - (intOf iv).toNat)
  case atStart => exact ⟨0, by omega, rfl, by simp, rfl⟩
  case round =>
    obtain ⟨j, hj, rfl, rfl, rfl⟩ := hrel
    by_cases hlt : j < n
    · have hkI : (j : Int) < n := by omega
      have hnl : (n : Int) ≤ 1048576 := by omega
      have hw : ∀ m : Int, 0 ≤ m → m ≤ 4000000 → IntKind.i64.wrap m = m := fun m h1 h2 => IntWalk.i64_in m (by omega)
      go_wp2_with (first
        | go_skip
        | ((with_reducible refine wlAt 15 rfl ?_); refine wpList_load1 rfl 2 (.tmp 14) rfl D j rfl N (mkI f k n) _ _ Tryd.underlying2 rfl R.out (by omega) ?_; rw [mkI_at f k n j (by omega)]))
      go_roundw
      case rel => exact ⟨j + 1, by omega, by go_num, by go_num, by first | rfl | trivial⟩
      case measure => simp [intOf]; omega
    · obtain rfl : j = n := by omega
      have hd : decide ((j : Int) < (j : Int)) = false := by simp
      go_wp2
      go_ret
      exact ⟨rfl, Below.refl _ _⟩
/-- a slice of n numbers, that lie below L -/
def SlI (w : World) (v : Value) (n : Nat) (px : Nat → Int) (L : Nat) : Prop := ∃ ao c, v = .slice ao n c ∧ (0 < n → ∃ D N f, ao = some ⟨D, 0, none⟩ ∧ D < L ∧ n ≤ N ∧ w.heap[D]? = some (.cells (vrow N f) 2) ∧ ∀ k, k < n → f k = .int .i64 (px k))
theorem SlI.next {w w' : World} {v : Value} {n : Nat} {px : Nat → Int} {L : Nat} (h : SlI w v n px L) (hb : Below w.heap.size w w') : SlI w' v n px L := by
  obtain ⟨ao, c, rfl, hr⟩ := h
  refine ⟨ao, c, rfl, fun hn => ?_⟩
  obtain ⟨D, N, f, h1, h2, h3, h4, h5⟩ := hr hn
  exact ⟨D, N, f, h1, h2, h3, row_next hb h4, h5⟩
theorem SlI.now {w : World} {v : Value} {n : Nat} {px : Nat → Int} {L : Nat} (h : SlI w v n px L) : SlI w v n px w.heap.size := by
  obtain ⟨ao, c, rfl, hr⟩ := h
  refine ⟨ao, c, rfl, fun hn => ?_⟩
  obtain ⟨D, N, f, h1, h2, h3, h4, h5⟩ := hr hn
  exact ⟨D, N, f, h1, row_lt h4, h3, h4, h5⟩
theorem SlI.below {w w' : World} {v : Value} {n : Nat} {px : Nat → Int} {L : Nat} (h : SlI w v n px L) (hb : Below L w w') : SlI w' v n px L := by
  obtain ⟨ao, c, rfl, hr⟩ := h
  refine ⟨ao, c, rfl, fun hn => ?_⟩
  obtain ⟨D, N, f, h1, h2, h3, h4, h5⟩ := hr hn
  exact ⟨D, N, f, h1, h2, h3, row_below hb h2 h4, h5⟩
set_option maxHeartbeats 2000000 in
theorem eqI0_any (a1 a2 : Option Addr) (c1 c2 : Nat) (w : World) : Calls Tryd.prog 29 #[.slice a1 0 c1, .slice a2 0 c2] w fun e w' => e = .returned (.bool true) ∧ Below w.heap.size w w' := by
  go_enter Tryd.func29, Tryd.ntmps29
  go_wp2
  go_loopw [5] (fun iv wr => iv = .int .i64 0 ∧ Below w.heap.size w wr) (fun _ _ => 0)
  case atStart => exact ⟨rfl, Below.refl _ _⟩
  case round =>
    obtain ⟨rfl, hB⟩ := hrel
    go_wp2
    go_ret
    exact ⟨rfl, hB⟩
set_option maxHeartbeats 2000000 in
theorem eqIN_any (D1 D2 n c1 c2 N1 N2 : Nat) (f1 f2 : Nat → Value) (px : Nat → Int) (w : World) (hn : n ≤ 1048576) (hN1 : n ≤ N1) (hN2 : n ≤ N2) (hf1 : ∀ k, k < n → f1 k = .int .i64 (px k)) (hf2 : ∀ k, k < n → f2 k = .int .i64 (px k)) (h1 : w.heap[D1]? = some (.cells (vrow N1 f1) 2)) (h2 : w.heap[D2]? = some (.cells (vrow N2 f2) 2)) : Calls Tryd.prog 29 #[.slice (some ⟨D1, 0, none⟩) n c1, .slice (some ⟨D2, 0, none⟩) n c2] w fun e w' => e = .returned (.bool true) ∧ Below w.heap.size w w' := by
  have R1 := Go.Lib.hid h1
  have R2 := Go.Lib.hid h2
  have hB := Go.Lib.hid (Below.refl w.heap.size w)
  have HF1 := Go.Lib.hid hf1
  have HF2 := Go.Lib.hid hf2
  clear h1 h2 hf1 hf2
  go_enter Tryd.func29, Tryd.ntmps29
  go_wp2
  go_loopw [5] (fun iv wr => ∃ k : Nat, k ≤ n ∧ iv = .int .i64 k ∧ wr.heap[D1]? = some (.cells (vrow N1 f1) 2) ∧ wr.heap[D2]? = some (.cells (vrow N2 f2) 2) ∧ Below w.heap.size w wr) (fun iv _ => n - (intOf iv).toNat)
  case atStart => exact ⟨0, by omega, rfl, R1.out, R2.out, hB.out⟩
  case round =>
    clear R1 R2 hB
    obtain ⟨k, hk, rfl, R1, R2, hB⟩ := hrel
    replace R1 := Go.Lib.hid R1; replace R2 := Go.Lib.hid R2; replace hB := Go.Lib.hid hB
    by_cases hlt : k < n
    · have hkI : (k : Int) < (n : Int) := by omega
      have hnl : (n : Int) ≤ 1048576 := by omega
      go_wp2
      refine wp_region_still_lit (by kernel_rfl) (by kernel_rfl) ?_
      simp only [World.drew_eq]
      repeat (first
        | (refine wpStill_load1 rfl 2 (.tmp 19) rfl D1 k rfl N1 f1 _ _ Tryd.underlying2 rfl R1.out (by omega) ?_; rw [HF1.out k hlt]; (try simp only [Act.put, List.setIfInBounds_toArray, List.set_cons_succ, List.set_cons_zero]))
        | (refine wpStill_load1 rfl 2 (.tmp 23) rfl D2 k rfl N2 f2 _ _ Tryd.underlying2 rfl R2.out (by omega) ?_; rw [HF2.out k hlt]; (try simp only [Act.put, List.setIfInBounds_toArray, List.set_cons_succ, List.set_cons_zero]))
        | still_step)
      refine wpStill_nil ?_
      replace R1 := Go.Lib.hid (drwP R1.out); replace R2 := Go.Lib.hid (drwP R2.out); replace hB := Go.Lib.hid (hB.out.drew)
      generalize World.drew _ = W2 at R1 R2 hB ⊢
      go_wp2
      go_roundw
      case rel => exact ⟨k + 1, by omega, by go_num, R1.out, R2.out, hB.out⟩
      case measure => simp [intOf]; omega
    · obtain rfl : k = n := by omega
      have hd : decide ((k : Int) < (k : Int)) = false := by simp
      go_wp2
      go_ret
      exact ⟨rfl, hB.out⟩
theorem eqI_any (v1 v2 : Value) (n L1 L2 : Nat) (px : Nat → Int) (w : World) (hn : n ≤ 1048576) (h1 : SlI w v1 n px L1) (h2 : SlI w v2 n px L2) : Calls Tryd.prog 29 #[v1, v2] w fun e w' => e = .returned (.bool true) ∧ Below w.heap.size w w' := by
  obtain ⟨a1, c1, rfl, g1⟩ := h1
  obtain ⟨a2, c2, rfl, g2⟩ := h2
  rcases Nat.eq_zero_or_pos n with rfl | hp
  · exact eqI0_any a1 a2 c1 c2 w
  · obtain ⟨D1, N1, f1, rfl, _, hN1, hr1, hf1⟩ := g1 hp
    obtain ⟨D2, N2, f2, rfl, _, hN2, hr2, hf2⟩ := g2 hp
    exact eqIN_any D1 D2 n c1 c2 N1 N2 f1 f2 px w hn hN1 hN2 hf1 hf2 hr1 hr2
def li (l : List Nat) (k : Nat) : Int := if h : k < l.length then ((l[k]'h : Nat) : Int) else 0
/-- the program's slice: of its own from B on -/
def PI (w : World) (v : Value) (n : Nat) (px : Nat → Int) (B : Nat) : Prop := ∃ ao c, v = .slice ao n c ∧ (n = 0 ∨ ∃ g N f, ao = some ⟨g, 0, none⟩ ∧ B ≤ g ∧ n ≤ N ∧ w.heap[g]? = some (.cells (vrow N f) 2) ∧ ∀ k, k < n → f k = .int .i64 (px k))
theorem PI.next {w w' : World} {v : Value} {n : Nat} {px : Nat → Int} {B : Nat} (h : PI w v n px B) (hb : Below w.heap.size w w') : PI w' v n px B := by
  obtain ⟨ao, c, rfl, hr⟩ := h
  refine ⟨ao, c, rfl, hr.imp id ?_⟩
  rintro ⟨g, N, f, h1, h2, h3, h4, h5⟩
  exact ⟨g, N, f, h1, h2, h3, row_next hb h4, h5⟩
theorem PI.slp {w : World} {v : Value} {n : Nat} {px : Nat → Int} {B : Nat} (h : PI w v n px B) : SlI w v n px w.heap.size := by
  obtain ⟨ao, c, rfl, hr⟩ := h
  refine ⟨ao, c, rfl, fun hn => ?_⟩
  rcases hr with h0 | ⟨g, N, f, h1, h2, h3, h4, h5⟩
  · omega
  · exact ⟨g, N, f, h1, row_lt h4, h3, h4, h5⟩
theorem own_pi {W : World} {base : Nat} {v : Value} {l : List Nat} (h : W.ownsRow base 2 1 v l.length (ivals l)) : PI W v l.length (li l) base := by
  rcases h.2 with ⟨rfl, h0⟩ | ⟨g, cap, cur, rfl, hg, _, _, _, _, _⟩
  · refine ⟨none, 0, ?_, .inl h0⟩
    rw [h0]
  · obtain ⟨f, h1, h2, h3⟩ := own_row_ofK h
    refine ⟨_, _, rfl, .inr ⟨g, cap * 1, f, rfl, hg, by omega, h1, fun k hk => ?_⟩⟩
    refine h3 k _ (by omega) ?_
    unfold ivals li
    rw [List.getElem?_map, List.getElem?_eq_getElem hk, dif_pos hk]; rfl
def MI (w : World) (v : Value) (n : Nat) : Prop := ∃ ao c, v = .slice ao n c ∧ (n = 0 ∨ ∃ g N f, ao = some ⟨g, 0, none⟩ ∧ n ≤ N ∧ w.heap[g]? = some (.cells (vrow N (mkI f 1 n)) 2))
theorem MI.next {w w' : World} {v : Value} {n : Nat} (h : MI w v n) (hb : Below w.heap.size w w') : MI w' v n := by
  obtain ⟨ao, c, rfl, hr⟩ := h
  refine ⟨ao, c, rfl, hr.imp id ?_⟩
  rintro ⟨g, N, f, h1, h3, h4⟩
  exact ⟨g, N, f, h1, h3, row_next hb h4⟩
set_option maxHeartbeats 2000000 in
theorem markI0_any (ao : Option Addr) (c : Nat) (k : Int) (w : World) : Calls Tryd.prog 30 #[.slice ao 0 c, .int .i64 k] w fun e w' => e = .returned (.int .i64 k) ∧ Below w.heap.size w w' := by
  go_enter Tryd.func30, Tryd.ntmps30
  go_wp2
  go_loopw [1, 5] (fun kv iv wr => kv = .int .i64 k ∧ iv = .int .i64 0 ∧ Below w.heap.size w wr) (fun _ _ _ => 0)
  case atStart => exact ⟨rfl, rfl, Below.refl _ _⟩
  case round =>
    obtain ⟨rfl, rfl, hB⟩ := hrel
    go_wp2
    go_ret
    exact ⟨rfl, hB⟩
set_option maxHeartbeats 2000000 in
theorem heldI0_any (ao : Option Addr) (c : Nat) (k : Int) (w : World) : Calls Tryd.prog 31 #[.slice ao 0 c, .int .i64 k] w fun e w' => e = .returned (.int .i64 k) ∧ Below w.heap.size w w' := by
  go_enter Tryd.func31, Tryd.ntmps31
  go_wp2
  go_loopw [1, 5] (fun kv iv wr => kv = .int .i64 k ∧ iv = .int .i64 0 ∧ Below w.heap.size w wr) (fun _ _ _ => 0)
  case atStart => exact ⟨rfl, rfl, Below.refl _ _⟩
  case round =>
    obtain ⟨rfl, rfl, hB⟩ := hrel
    go_wp2
    go_ret
    exact ⟨rfl, hB⟩
theorem markPI (v : Value) (n : Nat) (px : Nat → Int) (B : Nat) (w : World) (hn : n ≤ 1048576) (hB : B ≤ w.heap.size) (h : PI w v n px B) : Calls Tryd.prog 30 #[v, .int .i64 1] w fun e w' => e = .returned (.int .i64 (1 + (n : Int))) ∧ MI w' v n ∧ Below B w w' := by
  obtain ⟨ao, c, rfl, hr⟩ := h
  rcases hr with rfl | ⟨g, N, f, rfl, hg, hN, hr, _⟩
  · refine (markI0_any ao c 1 w).mono ?_
    rintro e w' ⟨rfl, hb⟩
    exact ⟨by simp, ⟨ao, c, rfl, .inl rfl⟩, hb.mono hB⟩
  · refine (markI_any g n c N f 1 w hn hN ⟨by omega, by omega⟩ hr).mono ?_
    rintro e w' ⟨rfl, rfl⟩
    exact ⟨rfl, ⟨_, _, rfl, .inr ⟨g, N, f, rfl, hN, row_set hr _⟩⟩, Below_setRow (Below.refl _ _) hg _⟩
theorem heldMI (v : Value) (n : Nat) (w : World) (hn : n ≤ 1048576) (h : MI w v n) : Calls Tryd.prog 31 #[v, .int .i64 1] w fun e w' => e = .returned (.int .i64 (1 + (n : Int))) ∧ Below w.heap.size w w' := by
  obtain ⟨ao, c, rfl, hr⟩ := h
  rcases hr with rfl | ⟨g, N, f, rfl, hN, hr⟩
  · refine (heldI0_any ao c 1 w).mono ?_
    rintro e w' ⟨rfl, hb⟩
    exact ⟨by simp, hb⟩
  · exact heldI_any g n c N f 1 w hn hN ⟨by omega, by omega⟩ hr
end Go.Proofs.YtfhfiaphdgfmnaaDoor
