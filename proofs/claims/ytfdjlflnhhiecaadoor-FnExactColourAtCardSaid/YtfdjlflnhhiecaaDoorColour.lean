import Derived.Deep.RegionHeld3
import Derived.Test.YtfdjlflnhhiecaaDoorReaders2
namespace Go.Proofs.YtfdjlflnhhiecaaDoor
open Go.RowKit
set_option maxRecDepth 100000
set_option linter.unusedVariables false
/-- the program's reckoning: the colour so far, and the most so far -/
def colSt (d : Nat → Int) : Nat → Int × Int
  | 0 => (-1, 0)
  | k + 1 => if d k > (colSt d k).2 then ((k : Int), d k) else if d k = (colSt d k).2 ∧ d k > 0 then (3, (colSt d k).2) else colSt d k
/-- the specification's: the last that has the most, while no two have -/
def most3 (d : Nat → Int) : Int := max (d 0) (max (d 1) (d 2))
def lastSt (d : Nat → Int) : Nat → Int
  | 0 => -1
  | k + 1 => if d k = most3 d then (k : Int) else lastSt d k
def colS (d : Nat → Int) : Int :=
  if most3 d = 0 then -1 else if (d 0 = most3 d ∧ d 1 = most3 d) ∨ (d 0 = most3 d ∧ d 2 = most3 d) ∨ (d 1 = most3 d ∧ d 2 = most3 d) then 3 else if d 0 = most3 d then 0 else if d 1 = most3 d then 1 else 2
theorem colSt_bd (d : Nat → Int) (hd : ∀ i, i < 3 → 0 ≤ d i ∧ d i ≤ 1000) : ∀ k, k ≤ 3 → (0 ≤ (colSt d k).2 ∧ (colSt d k).2 ≤ 1000) ∧ (-1 ≤ (colSt d k).1 ∧ (colSt d k).1 ≤ 3)
  | 0, _ => by simp [colSt]
  | k + 1, hk => by
    have h1 := colSt_bd d hd k (by omega)
    have h2 := hd k (by omega)
    simp only [colSt]
    split
    · simp; omega
    · split
      · simp; omega
      · exact h1
theorem colSt_c (d : Nat → Int) (k : Nat) : (colSt d (k + 1)).1 = if d k > (colSt d k).2 then (k : Int) else if d k = (colSt d k).2 ∧ d k > 0 then 3 else (colSt d k).1 := by
  simp only [colSt]; split
  · rfl
  · split <;> rfl
theorem colSt_m (d : Nat → Int) (k : Nat) : (colSt d (k + 1)).2 = if d k > (colSt d k).2 then d k else (colSt d k).2 := by
  simp only [colSt]; split
  · rfl
  · split <;> rfl
theorem most3_is (d : Nat → Int) : (d 0 ≤ most3 d ∧ d 1 ≤ most3 d ∧ d 2 ≤ most3 d) ∧ (d 0 = most3 d ∨ d 1 = most3 d ∨ d 2 = most3 d) := by
  unfold most3
  rw [Int.max_def, Int.max_def]
  repeat' (first | omega | split)
theorem col_eq (d : Nat → Int) (hd : ∀ i, i < 3 → 0 ≤ d i ∧ d i ≤ 1000) : (colSt d 3).1 = colS d := by
  have h0 := hd 0 (by omega)
  have h1 := hd 1 (by omega)
  have h2 := hd 2 (by omega)
  have hm := most3_is d
  have M1 : (colSt d 1).2 = d 0 := by
    rw [colSt_m]
    by_cases g : d 0 > 0
    · simp [colSt, g]
    · simp [colSt, g]; omega
  have M2 : d 1 ≤ (colSt d 2).2 ∧ d 0 ≤ (colSt d 2).2 ∧ ((colSt d 2).2 = d 0 ∨ (colSt d 2).2 = d 1) := by rw [colSt_m, M1]; split <;> omega
  have C1 : (colSt d 1).1 = if d 0 > 0 then 0 else -1 := by rw [colSt_c]; simp only [colSt]; repeat' (first | omega | split)
  rw [colSt_c, colSt_c, M1, C1]
  generalize (colSt d 2).2 = m2 at M2
  unfold colS
  generalize most3 d = m at hm
  generalize e0 : d 0 = a at *
  generalize e1 : d 1 = b at *
  generalize e2 : d 2 = c at *
  repeat' (first | omega | split)
theorem last_yes (d : Nat → Int) : ∀ k, 0 ≤ lastSt d k → ∃ j, j < k ∧ d j = most3 d
  | 0, h => by simp [lastSt] at h
  | k + 1, h => by
    simp only [lastSt] at h
    split at h
    · rename_i e; exact ⟨k, by omega, e⟩
    · obtain ⟨j, hj, e⟩ := last_yes d k h; exact ⟨j, by omega, e⟩
theorem last_no (d : Nat → Int) : ∀ k, lastSt d k < 0 → ∀ j, j < k → d j ≠ most3 d
  | 0, _, j, hj => by omega
  | k + 1, h, j, hj => by
    simp only [lastSt] at h
    split at h
    · omega
    · rename_i e
      by_cases hjk : j = k
      · rw [hjk]; exact e
      · exact last_no d k h j (by omega)
theorem last_bd (d : Nat → Int) : ∀ k, k ≤ 3 → -1 ≤ lastSt d k ∧ lastSt d k ≤ 3
  | 0, _ => by simp [lastSt]
  | k + 1, hk => by
    have := last_bd d k (by omega)
    simp only [lastSt]; split <;> omega
theorem col_three (d : Nat → Int) (h : most3 d ≠ 0) (k : Nat) (hk : k < 3) (h1 : 0 ≤ lastSt d k) (h2 : d k = most3 d) : colS d = 3 := by
  obtain ⟨j, hj, e⟩ := last_yes d k h1
  unfold colS
  rw [if_neg h, if_pos]
  have : (k = 1 ∧ j = 0) ∨ (k = 2 ∧ j = 0) ∨ (k = 2 ∧ j = 1) := by omega
  rcases this with ⟨rfl, rfl⟩ | ⟨rfl, rfl⟩ | ⟨rfl, rfl⟩
  · exact Or.inl ⟨e, h2⟩
  · exact Or.inr (Or.inl ⟨e, h2⟩)
  · exact Or.inr (Or.inr ⟨e, h2⟩)
theorem col_last (d : Nat → Int) (h : most3 d ≠ 0) (hH : ∀ i j, i < j → j < 3 → ¬(d i = most3 d ∧ d j = most3 d)) : lastSt d 3 = colS d := by
  have a1 := hH 0 1 (by omega) (by omega)
  have a2 := hH 0 2 (by omega) (by omega)
  have a3 := hH 1 2 (by omega) (by omega)
  have hm := (most3_is d).2
  unfold colS
  simp only [lastSt]
  generalize most3 d = m at *
  generalize e0 : d 0 = a at *
  generalize e1 : d 1 = b at *
  generalize e2 : d 2 = c at *
  repeat' (first | omega | split)
theorem colS_bd (d : Nat → Int) : -1 ≤ colS d ∧ colS d ≤ 3 := by
  unfold colS
  repeat' (first | omega | split)
set_option maxHeartbeats 1000000 in
theorem colourOf_any (d : Nat → Int) (hd : ∀ i, i < 3 → 0 ≤ d i ∧ d i ≤ 1000) (w : World) : Calls Tryd.prog 66 #[.agg #[.int .i16 (d 0), .int .i16 (d 1), .int .i16 (d 2)]] w fun e w' => e = .returned (.int .i64 (colSt d 3).1) ∧ Below w.heap.size w w' := by
  rw [d3f_vrow]
  have hB : Hid (Below w.heap.size w (w.alloc (.cells (vrow 3 (d3f d)) 26))) := ((Below.refl w.heap.size w).alloc (by simp <;> omega) _)
  have D : Hid ((w.alloc (.cells (vrow 3 (d3f d)) 26)).heap[(w.heap.size)]? = some (.cells (vrow 3 (d3f d)) 26)) := heap_at _ _ _ (by simp)
  go_enter Tryd.func66, Tryd.ntmps66
  go_wp2_with (first
    | (refine list_at 7 rfl ?_; intro W hW; rw [hW] at hB D; clear hW; have D' := Go.Lib.hid (cls_row' D.out); (repeat (first | go_big_quiet_skip | (refine wpQuiet_loadmid 26 _ rfl (by first | exact want_n rfl | exact want_g _ _ _ rfl rfl rfl) (w.heap.size) _ rfl 3 3 (d3f d) _ rw_d3 size_d3 D'.out (by omega) ?_; rw [d3f_row]; simp only [Act.put, List.setIfInBounds_toArray, List.set_cons_succ, List.set_cons_zero]) | go_big_quiet_step (fail))); refine wpQuiet_nil ?_; intro Wn hb; replace D := Go.Lib.hid (row_next hb D.out); replace hB := Go.Lib.hid (below_next hB.out hb); clear hb D'))
  go_loopw [3, 4, 8] (fun cl ms i wr => ∃ k : Nat, k ≤ 3 ∧ i = .int .i64 k ∧ cl = .int .i64 (colSt d k).1 ∧ ms = .int .i16 (colSt d k).2 ∧ Below w.heap.size w wr) (fun _ _ i _ => 3 - (intOf i).toNat)
  case atStart => exact ⟨0, by omega, rfl, rfl, rfl, hB.out⟩
  case round =>
    clear hB D
    obtain ⟨k, hk, rfl, rfl, rfl, hB⟩ := hrel
    replace hB := Go.Lib.hid hB
    obtain ⟨⟨hs1, hs2⟩, hs3, hs4⟩ := colSt_bd d hd k hk
    by_cases hlt : k < 3
    · have hix := idx_d d k hlt
      obtain ⟨hd1, hd2⟩ := hd k hlt
      have HS := Go.Lib.hid (show colSt d (k + 1) = _ from rfl)
      by_cases c1 : (colSt d k).2 < d k
      · have HG := Go.Lib.hid (show colSt d (k + 1) = ((k : Int), d k) by simp [colSt, c1])
        clear HS
        go_wp2
        go_roundw
        case rel => exact ⟨k + 1, by omega, by go_num, by rw [HG.out], by rw [HG.out], hB.out⟩
        case measure => simp [intOf]; omega
      · by_cases c2 : d k = (colSt d k).2
        · have t2 : (d k == (colSt d k).2) = true := by simpa using c2
          by_cases c3 : 0 < d k
          · have HG := Go.Lib.hid (show colSt d (k + 1) = (3, (colSt d k).2) by simp [colSt, c2]; omega)
            clear HS
            go_wp2
            go_roundw
            case rel => exact ⟨k + 1, by omega, by go_num, by rw [HG.out], by rw [HG.out], hB.out⟩
            case measure => simp [intOf]; omega
          · have HG := Go.Lib.hid (show colSt d (k + 1) = colSt d k by simp [colSt, c1]; omega)
            clear HS
            go_wp2
            go_roundw
            case rel => exact ⟨k + 1, by omega, by go_num, by rw [HG.out], by rw [HG.out], hB.out⟩
            case measure => simp [intOf]; omega
        · have t2 : (d k == (colSt d k).2) = false := by simpa using c2
          have HG := Go.Lib.hid (show colSt d (k + 1) = colSt d k by simp [colSt, c1, c2])
          clear HS
          go_wp2
          go_roundw
          case rel => exact ⟨k + 1, by omega, by go_num, by rw [HG.out], by rw [HG.out], hB.out⟩
          case measure => simp [intOf]; omega
    · obtain rfl : k = 3 := by omega
      go_wp2
      go_ret
      exact ⟨rfl, hB.out⟩
theorem lmax_any (a b : Int) (w : World) : Calls Tryd.prog 85 #[.int .i64 a, .int .i64 b] w fun e w' => e = .returned (.int .i64 (max a b)) ∧ Below w.heap.size w w' := by
  by_cases h : b < a
  · have hm : max a b = a := by omega
    go_enter Tryd.func85, Tryd.ntmps85
    go_wp2
    go_ret
    exact ⟨by first | rfl | (rw [hm]; rfl), Below.refl _ _⟩
  · have hm : max a b = b := by omega
    go_enter Tryd.func85, Tryd.ntmps85
    go_wp2
    go_ret
    exact ⟨by first | rfl | (rw [hm]; rfl), Below.refl _ _⟩
set_option maxHeartbeats 1000000 in
theorem lcolour_any (d : Nat → Int) (hd : ∀ i, i < 3 → 0 ≤ d i ∧ d i ≤ 1000) (w : World) : Calls Tryd.prog 65 #[.agg #[.int .i16 (d 0), .int .i16 (d 1), .int .i16 (d 2)]] w fun e w' => e = .returned (.int .i64 (colS d)) ∧ Below w.heap.size w w' := by
  have HM1 := Go.Lib.hid fun w => lmax_any (d 1) (d 2) w
  have HM2 := Go.Lib.hid (show ∀ w, Calls Tryd.prog 85 #[.int .i64 (d 0), .int .i64 (max (d 1) (d 2))] w fun e w' => e = .returned (.int .i64 (most3 d)) ∧ Below w.heap.size w w' from fun w => lmax_any _ _ w)
  obtain ⟨g0, g0'⟩ := hd 0 (by omega)
  obtain ⟨g1, g1'⟩ := hd 1 (by omega)
  obtain ⟨g2, g2'⟩ := hd 2 (by omega)
  obtain ⟨b1, b2⟩ := colS_bd d
  rw [d3f_vrow]
  have hB : Hid (Below w.heap.size w (w.alloc (.cells (vrow 3 (d3f d)) 26))) := ((Below.refl w.heap.size w).alloc (by simp <;> omega) _)
  have D : Hid ((w.alloc (.cells (vrow 3 (d3f d)) 26)).heap[(w.heap.size)]? = some (.cells (vrow 3 (d3f d)) 26)) := heap_at _ _ _ (by simp)
  go_enter Tryd.func65, Tryd.ntmps65
  go_wp2
  (refine region_at (by kernel_rfl) (by kernel_rfl) ?_; intro W hW; rw [hW] at hB D; clear hW; have D' := Go.Lib.hid (cls_row' D.out); (repeat (first | go_big_quiet_skip | (refine wpQuiet_load1 23 _ rfl (by first | exact want_n rfl | exact want_g _ _ _ rfl rfl rfl) (w.heap.size) _ rfl 3 (d3f d) _ rw_i16 D'.out (by omega) ?_; rw [d3f_at]; simp only [Act.put, List.setIfInBounds_toArray, List.set_cons_succ, List.set_cons_zero]) | go_big_quiet_step ((go_at_call 85; first | exact cls_call _ (fun w hw => HM1.out w) | exact cls_call _ (fun w hw => HM2.out w))))); refine wpQuiet_nil ?_; intro Wn hb; replace D := Go.Lib.hid (row_next hb D.out); replace hB := Go.Lib.hid (below_next hB.out hb); clear hb D')
  by_cases hz : most3 d = 0
  · have HR := Go.Lib.hid (show colS d = -1 by unfold colS; rw [if_pos hz])
    have hz' : (most3 d == 0) = true := by simpa using hz
    clear hz
    go_wp2
    go_ret
    exact ⟨by first | rfl | (rw [HR.out]; rfl) | (rw [HR.out]), hB.out⟩
  · have hz' : (most3 d == 0) = false := by simpa using hz
    replace hz := Go.Lib.hid hz
    go_wp2
    go_loopw [4, 5] (fun lf i wr => ∃ k : Nat, k ≤ 3 ∧ i = .int .i64 k ∧ lf = .int .i64 (lastSt d k) ∧ (∀ i j, i < j → j < k → ¬(d i = most3 d ∧ d j = most3 d)) ∧ Below w.heap.size w wr ∧ wr.heap[w.heap.size]? = some (.cells (vrow 3 (d3f d)) 26)) (fun _ i _ => 3 - (intOf i).toNat)
    case atStart => exact ⟨0, by omega, rfl, rfl, fun _ _ _ h => by omega, hB.out, D.out⟩
    case round =>
      clear hB D
      obtain ⟨k, hk, rfl, rfl, hH, hB, D⟩ := hrel
      replace hB := Go.Lib.hid hB; replace D := Go.Lib.hid D; replace hH := Go.Lib.hid hH
      obtain ⟨hs3, hs4⟩ := last_bd d k hk
      by_cases hlt : k < 3
      · obtain ⟨hd1, hd2⟩ := hd k hlt
        by_cases c1 : d k = most3 d
        · have t1 : (d k == most3 d) = true := by simpa using c1
          by_cases c2 : 0 ≤ lastSt d k
          · have HR := Go.Lib.hid (col_three d hz.out k hlt c2 c1)
            clear c1 hz
            go_wp2_with (first
              | (refine list_at 25 rfl ?_; intro W hW; rw [hW] at hB D; clear hW; have D' := Go.Lib.hid (cls_row' D.out); (repeat (first | go_big_quiet_skip | (refine wpQuiet_load1 23 _ rfl (by first | exact want_n rfl | exact want_g _ _ _ rfl rfl rfl) (w.heap.size) _ rfl 3 (d3f d) _ rw_i16 D'.out (by omega) ?_; rw [d3f_at]; simp only [Act.put, List.setIfInBounds_toArray, List.set_cons_succ, List.set_cons_zero]) | go_big_quiet_step (fail))); refine wpQuiet_nil ?_; intro Wn hb; replace D := Go.Lib.hid (row_next hb D.out); replace hB := Go.Lib.hid (below_next hB.out hb); clear hb D')
              | (refine list_at 35 rfl ?_; intro W hW; rw [hW] at hB D; clear hW; have D' := Go.Lib.hid (cls_row' D.out); (repeat (first | go_big_quiet_skip | (refine wpQuiet_load1 23 _ rfl (by first | exact want_n rfl | exact want_g _ _ _ rfl rfl rfl) (w.heap.size) _ rfl 3 (d3f d) _ rw_i16 D'.out (by omega) ?_; rw [d3f_at]; simp only [Act.put, List.setIfInBounds_toArray, List.set_cons_succ, List.set_cons_zero]) | go_big_quiet_step (fail))); refine wpQuiet_nil ?_; intro Wn hb; replace D := Go.Lib.hid (row_next hb D.out); replace hB := Go.Lib.hid (below_next hB.out hb); clear hb D'))
            go_ret
            exact ⟨by first | rfl | (rw [HR.out]; rfl) | (rw [HR.out]), hB.out⟩
          · have HG := Go.Lib.hid (show lastSt d (k + 1) = (k : Int) by simp [lastSt, c1])
            have HN := Go.Lib.hid (show ∀ i j, i < j → j < k + 1 → ¬(d i = most3 d ∧ d j = most3 d) from fun i j h1 h2 h3 => if e : j = k then last_no d k (by omega) i (by omega) h3.1 else hH.out i j h1 (by omega) h3)
            clear c1 hz
            go_wp2_with (first
              | (refine list_at 25 rfl ?_; intro W hW; rw [hW] at hB D; clear hW; have D' := Go.Lib.hid (cls_row' D.out); (repeat (first | go_big_quiet_skip | (refine wpQuiet_load1 23 _ rfl (by first | exact want_n rfl | exact want_g _ _ _ rfl rfl rfl) (w.heap.size) _ rfl 3 (d3f d) _ rw_i16 D'.out (by omega) ?_; rw [d3f_at]; simp only [Act.put, List.setIfInBounds_toArray, List.set_cons_succ, List.set_cons_zero]) | go_big_quiet_step (fail))); refine wpQuiet_nil ?_; intro Wn hb; replace D := Go.Lib.hid (row_next hb D.out); replace hB := Go.Lib.hid (below_next hB.out hb); clear hb D')
              | (refine list_at 35 rfl ?_; intro W hW; rw [hW] at hB D; clear hW; have D' := Go.Lib.hid (cls_row' D.out); (repeat (first | go_big_quiet_skip | (refine wpQuiet_load1 23 _ rfl (by first | exact want_n rfl | exact want_g _ _ _ rfl rfl rfl) (w.heap.size) _ rfl 3 (d3f d) _ rw_i16 D'.out (by omega) ?_; rw [d3f_at]; simp only [Act.put, List.setIfInBounds_toArray, List.set_cons_succ, List.set_cons_zero]) | go_big_quiet_step (fail))); refine wpQuiet_nil ?_; intro Wn hb; replace D := Go.Lib.hid (row_next hb D.out); replace hB := Go.Lib.hid (below_next hB.out hb); clear hb D'))
            go_roundw
            case rel => exact ⟨k + 1, by omega, by go_num, by rw [HG.out], HN.out, hB.out, D.out⟩
            case measure => simp [intOf]; omega
        · have t1 : (d k == most3 d) = false := by simpa using c1
          have HG := Go.Lib.hid (show lastSt d (k + 1) = lastSt d k by simp [lastSt, c1])
          have HN := Go.Lib.hid (show ∀ i j, i < j → j < k + 1 → ¬(d i = most3 d ∧ d j = most3 d) from fun i j h1 h2 h3 => if e : j = k then c1 (e ▸ h3.2) else hH.out i j h1 (by omega) h3)
          clear c1 hz
          go_wp2_with (first
            | (refine list_at 25 rfl ?_; intro W hW; rw [hW] at hB D; clear hW; have D' := Go.Lib.hid (cls_row' D.out); (repeat (first | go_big_quiet_skip | (refine wpQuiet_load1 23 _ rfl (by first | exact want_n rfl | exact want_g _ _ _ rfl rfl rfl) (w.heap.size) _ rfl 3 (d3f d) _ rw_i16 D'.out (by omega) ?_; rw [d3f_at]; simp only [Act.put, List.setIfInBounds_toArray, List.set_cons_succ, List.set_cons_zero]) | go_big_quiet_step (fail))); refine wpQuiet_nil ?_; intro Wn hb; replace D := Go.Lib.hid (row_next hb D.out); replace hB := Go.Lib.hid (below_next hB.out hb); clear hb D')
            | (refine list_at 35 rfl ?_; intro W hW; rw [hW] at hB D; clear hW; have D' := Go.Lib.hid (cls_row' D.out); (repeat (first | go_big_quiet_skip | (refine wpQuiet_load1 23 _ rfl (by first | exact want_n rfl | exact want_g _ _ _ rfl rfl rfl) (w.heap.size) _ rfl 3 (d3f d) _ rw_i16 D'.out (by omega) ?_; rw [d3f_at]; simp only [Act.put, List.setIfInBounds_toArray, List.set_cons_succ, List.set_cons_zero]) | go_big_quiet_step (fail))); refine wpQuiet_nil ?_; intro Wn hb; replace D := Go.Lib.hid (row_next hb D.out); replace hB := Go.Lib.hid (below_next hB.out hb); clear hb D'))
          go_roundw
          case rel => exact ⟨k + 1, by omega, by go_num, by rw [HG.out], HN.out, hB.out, D.out⟩
          case measure => simp [intOf]; omega
      · obtain rfl : k = 3 := by omega
        have HR := Go.Lib.hid (col_last d hz.out hH.out)
        go_wp2
        go_ret
        exact ⟨by first | rfl | (rw [HR.out]; rfl) | (rw [HR.out]), hB.out⟩
end Go.Proofs.YtfdjlflnhhiecaaDoor
