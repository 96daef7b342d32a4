import Derived.Deep.RegionHeld3
import Derived.Test.YtfkialifnkfgcaaDoorPathN
import Derived.Test.YtfkialifnkfgcaaDoorG1
namespace Go.Proofs.YtfkialifnkfgcaaDoor
open Go.RowKit
set_option maxRecDepth 100000
set_option linter.unusedVariables false
set_option linter.unusedSimpArgs false
theorem sp2_row (a b : Int) : vrow 2 (spAt a b) = #[.int .i8 a, .int .i8 b] := rfl
def sideAt (x y u v : Int) (k : Nat) : Bool := decide (nextX x k = u) && decide (nextY y k = v)
/-- one of the first k sides of a place leads to the other -/
def stepU (x y u v : Int) : Nat → Bool
  | 0 => false
  | k + 1 => stepU x y u v k || sideAt x y u v k
theorem stepU_hit (x y u v : Int) (k n : Nat) (hk : k < n) (h : sideAt x y u v k = true) : stepU x y u v n = true := by
  induction n with
  | zero => omega
  | succ n ih =>
    show (stepU x y u v n || sideAt x y u v n) = true
    by_cases e : k = n
    · rw [← e, h, Bool.or_true]
    · rw [ih (by omega), Bool.true_or]
set_option maxHeartbeats 2000000 in
theorem lstep_any (x y : Nat) (u v : Int) (w : World) (hx : x < 8) (hy : y < 8) : Calls Tryd.prog 127 #[.agg (vrow 2 (spAt x y)), .agg (vrow 2 (spAt u v))] w fun e w' => e = .returned (.bool (stepU x y u v 4)) ∧ Below w.heap.size w w' := by
  have hB : Hid (Below w.heap.size w ((w.alloc (.cells (vrow 2 (spAt x y)) 73)).alloc (.cells (vrow 2 (spAt u v)) 73))) := (((Below.refl w.heap.size w).alloc (by simp <;> omega) _).alloc (by simp <;> omega) _)
  have A : Hid (((w.alloc (.cells (vrow 2 (spAt x y)) 73)).alloc (.cells (vrow 2 (spAt u v)) 73)).heap[w.heap.size]? = some (.cells (vrow 2 (spAt x y)) 73)) := heap_past _ _ _ _ (by first | omega | (simp <;> omega)) (heap_at _ _ _ (by simp))
  have R : Hid (((w.alloc (.cells (vrow 2 (spAt x y)) 73)).alloc (.cells (vrow 2 (spAt u v)) 73)).heap[w.heap.size + 1]? = some (.cells (vrow 2 (spAt u v)) 73)) := heap_at _ _ _ (by simp)
  go_enter Tryd.func127, Tryd.ntmps127
  go_wp2
  go_loopw [5] (fun iv wr => ∃ k : Nat, k ≤ 4 ∧ iv = .int .i64 k ∧ stepU x y u v k = false ∧ wr.heap[w.heap.size]? = some (.cells (vrow 2 (spAt x y)) 73) ∧ wr.heap[w.heap.size + 1]? = some (.cells (vrow 2 (spAt u v)) 73) ∧ Below w.heap.size w wr) (fun iv _ => 4 - (intOf iv).toNat)
  case atStart => exact ⟨0, by omega, rfl, rfl, A.out, R.out, hB.out⟩
  case round =>
    clear A R hB
    obtain ⟨k, hk, rfl, HU, A, R, hB⟩ := hrel
    replace HU := Go.Lib.hid HU
    replace A := Go.Lib.hid A; replace R := Go.Lib.hid R; replace hB := Go.Lib.hid hB
    by_cases hlt : k < 4
    · have hkI : (k : Int) < 4 := by omega
      go_wp2
      have HN := Go.Lib.hid fun w => next_any x y k w hx hy hlt
      refine Code.wp_mono (Q := fun e a' W' => e = .normal ∧ a' = { tmps := #[.agg (vrow 2 (spAt x y)), .agg (vrow 2 (spAt u v)), .pointer (some ⟨w.heap.size, 0, none⟩), .pointer (some ⟨w.heap.size + 1, 0, none⟩), u4, .int .i64 k, .int .i64 k, .bool true, u8, u9, .agg (vrow 2 (spAt x y)), .int .i64 k, .agg (vrow 2 (spAt (nextX x k) (nextY y k))), .agg (vrow 2 (spAt u v)), .bool (sideAt x y u v k)], defers := [] } ∧ W'.heap[w.heap.size]? = some (.cells (vrow 2 (spAt x y)) 73) ∧ W'.heap[w.heap.size + 1]? = some (.cells (vrow 2 (spAt u v)) 73) ∧ Below w.heap.size w W') ?_ ?_
      rotate_left
      · refine wp_region_held_drew (S := fun W' => W'.heap[w.heap.size]? = some (.cells (vrow 2 (spAt x y)) 73) ∧ W'.heap[w.heap.size + 1]? = some (.cells (vrow 2 (spAt u v)) 73) ∧ Below w.heap.size w W') (by kernel_rfl) ⟨drwP A.out, drwP R.out, hB.out.drew⟩ (fun hH => ?_)
        generalize World.drew _ = W at hH ⊢
        refine wpAnyH_take (i := 0) (v := (.agg (vrow 2 (spAt x y)))) rfl (by kernel_rfl) (by kernel_rfl) (by kernel_rfl) (fun _ _ _ h => by cases h.1) (yields_row (by rfl) 73 _ rfl (w.heap.size) rfl 2 (spAt x y) 73 _ Tryd.underlying73 rfl size_spot (fun _ h => h.1)) hH ?_
        (try simp only [Act.put, List.setIfInBounds_toArray, List.set_cons_succ, List.set_cons_zero])
        refine wpAnyH_take (i := 1) (v := (.int .i64 k)) rfl (by kernel_rfl) (by kernel_rfl) (by kernel_rfl) (fun _ _ _ h => by cases h.1) (.inl ⟨by rfl, fun w _ => by go_simp⟩) hH ?_
        (try simp only [Act.put, List.setIfInBounds_toArray, List.set_cons_succ, List.set_cons_zero])
        refine wpAnyH_take (i := 3) (v := (.agg (vrow 2 (spAt u v)))) rfl (by kernel_rfl) (by kernel_rfl) (by kernel_rfl) (fun _ _ _ h => by cases h.1) (yields_row (by rfl) 73 _ rfl (w.heap.size + 1) rfl 2 (spAt u v) 73 _ Tryd.underlying73 rfl size_spot (fun _ h => h.2.1)) hH ?_
        (try simp only [Act.put, List.setIfInBounds_toArray, List.set_cons_succ, List.set_cons_zero])
        refine wpAnyH_ready (rs := [2]) (by kernel_rfl) (by simp) (AllReadyH.cons rfl (fun K hK => ?_) AllReadyH.nil)
        rw [if_pos (by rfl)]
        go_simp
        go_at_call 150
        refine (HN.out _).mono ?_
        rintro o X ⟨rfl, hb⟩
        replace hH : X.heap[w.heap.size]? = some (.cells (vrow 2 (spAt x y)) 73) ∧ X.heap[w.heap.size + 1]? = some (.cells (vrow 2 (spAt u v)) 73) ∧ Below w.heap.size w X := ⟨row_next hb hH.1, row_next hb hH.2.1, hH.2.2.trans (hb.mono hH.2.2.size)⟩
        clear hb
        refine hK.out _ _ hH (fun hH => ?_)
        clear hK K
        (try simp only [Act.put, List.setIfInBounds_toArray, List.set_cons_succ, List.set_cons_zero])
        refine wpAnyH_take (i := 4) (v := (.bool (sideAt x y u v k))) rfl (by kernel_rfl) (by kernel_rfl) (by kernel_rfl) (fun _ _ _ h => by cases h.1) (.inl ⟨by rfl, fun w _ => by simp only [sp2_row]; go_simp; unfold sideAt; by_cases h1 : nextX (x : Int) k = u <;> by_cases h2 : nextY (y : Int) k = v <;> simp [h1, h2]⟩) hH ?_
        (try simp only [Act.put, List.setIfInBounds_toArray, List.set_cons_succ, List.set_cons_zero])
        refine wpAnyH_done (by kernel_rfl) ?_ _
        exact ⟨rfl, rfl, hH⟩
      rintro e1 a1 W1 ⟨rfl, rfl, A, R, hB⟩
      replace A := Go.Lib.hid A; replace R := Go.Lib.hid R; replace hB := Go.Lib.hid hB
      cases hs : sideAt x y u v k
      · have HS := Go.Lib.hid hs
        clear hs
        go_wp2
        go_roundw
        case rel => exact ⟨k + 1, by omega, by go_num, by show (stepU x y u v k || sideAt x y u v k) = false; rw [HU.out, HS.out]; rfl, A.out, R.out, hB.out⟩
        case measure => simp [intOf]; omega
      · have HS := Go.Lib.hid hs
        clear hs
        go_wp2
        go_ret
        exact ⟨by rw [stepU_hit _ _ _ _ k 4 hlt HS.out]; rfl, hB.out⟩
    · obtain rfl : k = 4 := by omega
      have hd : decide (((4 : Nat) : Int) < 4) = false := by simp
      go_wp2
      go_ret
      exact ⟨by rw [HU.out]; rfl, hB.out⟩
set_option maxHeartbeats 2000000 in
theorem stepOf_any (x y : Nat) (u v : Int) (w : World) (hx : x < 8) (hy : y < 8) : Calls Tryd.prog 155 #[.agg (vrow 2 (spAt x y)), .agg (vrow 2 (spAt u v))] w fun e w' => (∃ r : Int, e = .returned (.int .i64 r) ∧ decide (r < 0) = !stepU x y u v 4) ∧ Below w.heap.size w w' := by
  have hB : Hid (Below w.heap.size w ((w.alloc (.cells (vrow 2 (spAt x y)) 73)).alloc (.cells (vrow 2 (spAt u v)) 73))) := (((Below.refl w.heap.size w).alloc (by simp <;> omega) _).alloc (by simp <;> omega) _)
  have A : Hid (((w.alloc (.cells (vrow 2 (spAt x y)) 73)).alloc (.cells (vrow 2 (spAt u v)) 73)).heap[w.heap.size]? = some (.cells (vrow 2 (spAt x y)) 73)) := heap_past _ _ _ _ (by first | omega | (simp <;> omega)) (heap_at _ _ _ (by simp))
  have R : Hid (((w.alloc (.cells (vrow 2 (spAt x y)) 73)).alloc (.cells (vrow 2 (spAt u v)) 73)).heap[w.heap.size + 1]? = some (.cells (vrow 2 (spAt u v)) 73)) := heap_at _ _ _ (by simp)
  go_enter Tryd.func155, Tryd.ntmps155
  go_wp2_with (first
    | go_skip
    | (go_at_call 152; (refine (sides_any _).mono ?_); rintro e w1 ⟨rfl, hb⟩; replace A := Go.Lib.hid (row_next hb A.out); replace R := Go.Lib.hid (row_next hb R.out); replace hB := Go.Lib.hid (below_next hB.out hb); clear hb))
  go_loopw [8] (fun iv wr => ∃ k : Nat, k ≤ 4 ∧ iv = .int .i64 k ∧ stepU x y u v k = false ∧ wr.heap[w.heap.size]? = some (.cells (vrow 2 (spAt x y)) 73) ∧ wr.heap[w.heap.size + 1]? = some (.cells (vrow 2 (spAt u v)) 73) ∧ Below w.heap.size w wr) (fun iv _ => 4 - (intOf iv).toNat)
  case atStart => exact ⟨0, by omega, rfl, rfl, A.out, R.out, hB.out⟩
  case round =>
    clear A R hB
    obtain ⟨k, hk, rfl, HU, A, R, hB⟩ := hrel
    replace HU := Go.Lib.hid HU
    replace A := Go.Lib.hid A; replace R := Go.Lib.hid R; replace hB := Go.Lib.hid hB
    by_cases hlt : k < 4
    · have hkI : (k : Int) < 4 := by omega
      have hix := fun w => idx4 k hlt w
      have hcf := fun a w => side_in k hlt a w
      go_wp2
      have HN := Go.Lib.hid fun w => side_any x y k w hx hy hlt
      refine Code.wp_mono (Q := fun e a' W' => e = .normal ∧ a' = { tmps := #[.agg (vrow 2 (spAt x y)), .agg (vrow 2 (spAt u v)), .pointer (some ⟨w.heap.size, 0, none⟩), .pointer (some ⟨w.heap.size + 1, 0, none⟩), u4, .int .i64 k, .func (.func (sideId k)) #[] #[], .agg (vrow 4 sideF), .int .i64 k, .bool true, .int .i64 k, .func (.func (sideId k)) #[] #[], .func (.func (sideId k)) #[] #[], .agg (vrow 2 (spAt x y)), .agg (vrow 2 (spAt (nextX x k) (nextY y k))), .agg (vrow 2 (spAt u v)), .bool (sideAt x y u v k), u17, u18], defers := [] } ∧ W'.heap[w.heap.size]? = some (.cells (vrow 2 (spAt x y)) 73) ∧ W'.heap[w.heap.size + 1]? = some (.cells (vrow 2 (spAt u v)) 73) ∧ Below w.heap.size w W') ?_ ?_
      rotate_left
      · refine wp_region_held_drew (S := fun W' => W'.heap[w.heap.size]? = some (.cells (vrow 2 (spAt x y)) 73) ∧ W'.heap[w.heap.size + 1]? = some (.cells (vrow 2 (spAt u v)) 73) ∧ Below w.heap.size w W') (by kernel_rfl) ⟨drwP A.out, drwP R.out, hB.out.drew⟩ (fun hH => ?_)
        generalize World.drew _ = W at hH ⊢
        refine wpAnyH_take (i := 0) (v := (.func (.func (sideId k)) #[] #[])) rfl (by kernel_rfl) (by kernel_rfl) (by kernel_rfl) (fun _ _ _ h => by cases h.1) (.inl ⟨by rfl, fun w _ => by go_simp⟩) hH ?_
        (try simp only [Act.put, List.setIfInBounds_toArray, List.set_cons_succ, List.set_cons_zero])
        refine wpAnyH_take (i := 1) (v := (.agg (vrow 2 (spAt x y)))) rfl (by kernel_rfl) (by kernel_rfl) (by kernel_rfl) (fun _ _ _ h => by cases h.1) (yields_row (by rfl) 73 _ rfl (w.heap.size) rfl 2 (spAt x y) 73 _ Tryd.underlying73 rfl size_spot (fun _ h => h.1)) hH ?_
        (try simp only [Act.put, List.setIfInBounds_toArray, List.set_cons_succ, List.set_cons_zero])
        refine wpAnyH_take (i := 3) (v := (.agg (vrow 2 (spAt u v)))) rfl (by kernel_rfl) (by kernel_rfl) (by kernel_rfl) (fun _ _ _ h => by cases h.1) (yields_row (by rfl) 73 _ rfl (w.heap.size + 1) rfl 2 (spAt u v) 73 _ Tryd.underlying73 rfl size_spot (fun _ h => h.2.1)) hH ?_
        (try simp only [Act.put, List.setIfInBounds_toArray, List.set_cons_succ, List.set_cons_zero])
        refine wpAnyH_ready (rs := [2]) (by kernel_rfl) (by simp) (AllReadyH.cons rfl (fun K hK => ?_) AllReadyH.nil)
        rw [if_pos (by rfl)]
        go_simp

        refine (HN.out _).mono ?_
        rintro o X ⟨rfl, hb⟩
        replace hH : X.heap[w.heap.size]? = some (.cells (vrow 2 (spAt x y)) 73) ∧ X.heap[w.heap.size + 1]? = some (.cells (vrow 2 (spAt u v)) 73) ∧ Below w.heap.size w X := ⟨row_next hb hH.1, row_next hb hH.2.1, hH.2.2.trans (hb.mono hH.2.2.size)⟩
        clear hb
        refine hK.out _ _ hH (fun hH => ?_)
        clear hK K
        (try simp only [Act.put, List.setIfInBounds_toArray, List.set_cons_succ, List.set_cons_zero])
        refine wpAnyH_take (i := 4) (v := (.bool (sideAt x y u v k))) rfl (by kernel_rfl) (by kernel_rfl) (by kernel_rfl) (fun _ _ _ h => by cases h.1) (.inl ⟨by rfl, fun w _ => by simp only [sp2_row]; go_simp; unfold sideAt; by_cases h1 : nextX (x : Int) k = u <;> by_cases h2 : nextY (y : Int) k = v <;> simp [h1, h2]⟩) hH ?_
        (try simp only [Act.put, List.setIfInBounds_toArray, List.set_cons_succ, List.set_cons_zero])
        refine wpAnyH_done (by kernel_rfl) ?_ _
        exact ⟨rfl, rfl, hH⟩
      rintro e1 a1 W1 ⟨rfl, rfl, A, R, hB⟩
      replace A := Go.Lib.hid A; replace R := Go.Lib.hid R; replace hB := Go.Lib.hid hB
      cases hs : sideAt x y u v k
      · have HS := Go.Lib.hid hs
        clear hs
        go_wp2
        go_roundw
        case rel => exact ⟨k + 1, by omega, by go_num, by show (stepU x y u v k || sideAt x y u v k) = false; rw [HU.out, HS.out]; rfl, A.out, R.out, hB.out⟩
        case measure => simp [intOf]; omega
      · have HS := Go.Lib.hid hs
        clear hs
        go_wp2
        go_ret
        exact ⟨⟨k, rfl, by rw [stepU_hit _ _ _ _ k 4 hlt HS.out]; simp⟩, hB.out⟩
    · obtain rfl : k = 4 := by omega
      have hd : decide (((4 : Nat) : Int) < 4) = false := by simp
      go_wp2
      go_ret
      exact ⟨⟨-1, rfl, by rw [HU.out]; rfl⟩, hB.out⟩
end Go.Proofs.YtfkialifnkfgcaaDoor
