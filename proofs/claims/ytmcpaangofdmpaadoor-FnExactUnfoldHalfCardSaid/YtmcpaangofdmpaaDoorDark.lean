import Derived.Deep.RegionHeld3
import Derived.Test.YtmcpaangofdmpaaDoorAsked
namespace Go.Proofs.YtmcpaangofdmpaaDoor
open Go.RowKit
set_option maxRecDepth 100000
set_option linter.unusedVariables false
theorem ok_has (s : Sh) (hv : okI s = true) (x y : Int) (hh : hasB s x y = true) : ∃ i j : Nat, x = i ∧ y = j ∧ i < 8 ∧ j < 8 := by
  simp only [okI, hasB, Bool.and_eq_true, decide_eq_true_eq] at hv hh
  exact ⟨x.toNat, y.toNat, by omega, by omega, by omega, by omega⟩
theorem ok_bounds (s : Sh) (hv : okI s = true) (x y : Nat) (hx : x < 8) (hy : y < 8) : (0 ≤ s.wet (8 * y + x) ∧ s.wet (8 * y + x) ≤ 200) ∧ (0 ≤ s.dye (24 * y + 3 * x) ∧ s.dye (24 * y + 3 * x) ≤ 1000) ∧ (0 ≤ s.dye (24 * y + 3 * x + 1) ∧ s.dye (24 * y + 3 * x + 1) ≤ 1000) ∧ (0 ≤ s.dye (24 * y + 3 * x + 2) ∧ s.dye (24 * y + 3 * x + 2) ≤ 1000) := by
  simp only [okI, Bool.and_eq_true, List.all_eq_true] at hv
  have h : validB s x y = true := hv.2.2 ⟨(x, y), hx, hy⟩ (mem_cells _)
  unfold validB at h
  split at h
  · split at h
    · simp [bareB] at h; omega
    · simp [dOk, wOk] at h; omega
  · simp [bareB] at h; omega
def darkB (s : Sh) (x y : Nat) : Int := s.dye (24 * y + 3 * x) + s.dye (24 * y + 3 * x + 1) + s.dye (24 * y + 3 * x + 2)
/-- a row of three -/
def d3f (d : Nat → Int) (i : Nat) : Value := .int .i16 (d i)
theorem d3f_at (d : Nat → Int) (i : Nat) : d3f d i = .int .i16 (d i) := rfl
theorem d3f_row (d : Nat → Int) : vrow 3 (fun i => d3f d (0 + i)) = #[.int .i16 (d 0), .int .i16 (d 1), .int .i16 (d 2)] := rfl
theorem d3f_vrow (d : Nat → Int) : #[.int .i16 (d 0), .int .i16 (d 1), .int .i16 (d 2)] = vrow 3 (d3f d) := rfl
theorem idx_d (d : Nat → Int) (k : Nat) (hk : k < 3) (w : World) : (Instr.index 26 (.agg #[.int .i16 (d 0), .int .i16 (d 1), .int .i16 (d 2)]) (.int .i64 k)).run Tryd.prog w = .ok (.int .i16 (d k)) w := by
  have i0 : ∀ (a b c : Value) (w : World), (Instr.index 26 (.agg #[a, b, c]) (.int .i64 0)).run Tryd.prog w = .ok a w := fun _ _ _ _ => by kernel_rfl
  have i1 : ∀ (a b c : Value) (w : World), (Instr.index 26 (.agg #[a, b, c]) (.int .i64 1)).run Tryd.prog w = .ok b w := fun _ _ _ _ => by kernel_rfl
  have i2 : ∀ (a b c : Value) (w : World), (Instr.index 26 (.agg #[a, b, c]) (.int .i64 2)).run Tryd.prog w = .ok c w := fun _ _ _ _ => by kernel_rfl
  have : k = 0 ∨ k = 1 ∨ k = 2 := by omega
  rcases this with rfl | rfl | rfl
  · exact i0 _ _ _ w
  · exact i1 _ _ _ w
  · exact i2 _ _ _ w
def dsum (d : Nat → Int) : Nat → Int
  | 0 => 0
  | k + 1 => dsum d k + d k
theorem dsum_bd (d : Nat → Int) (hd : ∀ i, i < 3 → 0 ≤ d i ∧ d i ≤ 1000) : ∀ k, k ≤ 3 → 0 ≤ dsum d k ∧ dsum d k ≤ 1000 * k
  | 0, _ => by simp [dsum]
  | k + 1, hk => by
    have := dsum_bd d hd k (by omega)
    have := hd k (by omega)
    simp only [dsum]; omega
def d3s (s : Sh) (x y i : Nat) : Value := .int .i16 (s.dye (24 * y + 3 * x + i))
theorem d3s_0 (s : Sh) (x y : Nat) : d3s s x y 0 = .int .i16 (s.dye (24 * y + 3 * x)) := rfl
theorem d3s_1 (s : Sh) (x y : Nat) : d3s s x y 1 = .int .i16 (s.dye (24 * y + 3 * x + 1)) := rfl
theorem d3s_2 (s : Sh) (x y : Nat) : d3s s x y 2 = .int .i16 (s.dye (24 * y + 3 * x + 2)) := rfl
set_option maxHeartbeats 400000 in
theorem darkness_any (d : Nat → Int) (hd : ∀ i, i < 3 → 0 ≤ d i ∧ d i ≤ 1000) (w : World) : Calls Tryd.prog 108 #[.agg #[.int .i16 (d 0), .int .i16 (d 1), .int .i16 (d 2)]] w fun e w' => e = .returned (.int .i64 (dsum d 3)) ∧ Below w.heap.size w w' := by
  rw [d3f_vrow]
  have hB : Hid (Below w.heap.size w (w.alloc (.cells (vrow 3 (d3f d)) 26))) := ((Below.refl w.heap.size w).alloc (by simp <;> omega) _)
  have D : Hid ((w.alloc (.cells (vrow 3 (d3f d)) 26)).heap[(w.heap.size)]? = some (.cells (vrow 3 (d3f d)) 26)) := heap_at _ _ _ (by simp)
  go_enter Tryd.func108, Tryd.ntmps108
  go_wp2_with (first
    | (refine list_at 6 rfl ?_; intro W hW; rw [hW] at hB D; clear hW; have D' := Go.Lib.hid (cls_row' D.out); (repeat (first | go_big_quiet_skip | (refine wpQuiet_loadmid 26 _ rfl (by first | exact want_n rfl | exact want_g _ _ _ rfl rfl rfl) (w.heap.size) _ rfl 3 3 (d3f d) _ rw_d3 size_d3 D'.out (by omega) ?_; rw [d3f_row]; simp only [Act.put, List.setIfInBounds_toArray, List.set_cons_succ, List.set_cons_zero]) | go_big_quiet_step (fail))); refine wpQuiet_nil ?_; intro Wn hb; replace D := Go.Lib.hid (row_next hb D.out); replace hB := Go.Lib.hid (below_next hB.out hb); clear hb D'))
  go_loopw [3, 7] (fun sm i wr => ∃ k : Nat, k ≤ 3 ∧ i = .int .i64 k ∧ sm = .int .i64 (dsum d k) ∧ Below w.heap.size w wr) (fun _ i _ => 3 - (intOf i).toNat)
  case atStart => exact ⟨0, by omega, rfl, rfl, hB.out⟩
  case round =>
    clear hB D
    obtain ⟨k, hk, rfl, rfl, hB⟩ := hrel
    replace hB := Go.Lib.hid hB
    obtain ⟨hs1, hs2⟩ := dsum_bd d hd k hk
    by_cases hlt : k < 3
    · have hix := idx_d d k hlt
      obtain ⟨hd1, hd2⟩ := hd k hlt
      go_wp2
      go_roundw
      case rel => exact ⟨k + 1, by omega, by go_num, by first | rfl | (simp only [dsum]; go_num), hB.out⟩
      case measure => simp [intOf]; omega
    · obtain rfl : k = 3 := by omega
      go_wp2
      go_ret
      exact ⟨rfl, hB.out⟩
end Go.Proofs.YtmcpaangofdmpaaDoor
