import Derived.Deep.RegionHeld3
import Derived.Test.YtmcpaangofdmpaaDoorFolL
import Derived.Test.YtmcpaangofdmpaaDoorIOff
import Derived.Test.YtmcpaangofdmpaaDoorPairI
import Derived.Test.YtmcpaangofdmpaaDoorQT
namespace Go.Proofs.YtmcpaangofdmpaaDoor
open Go.RowKit
set_option maxRecDepth 100000
set_option linter.unusedVariables false
set_option linter.unusedSimpArgs false
/-- by how much the sheet is off for a fold -/
def offF (s : Sh) (a c : Nat) (t : Int × Bool × Int) : Int := oS (gq s t.1 t.2.1 (prsL s a c t.1 t.2.1)) (prsL s a c t.1 t.2.1).length
/-- the first of the least among 0 .. k -/
def bi (f : Nat → Int) : Nat → Nat
  | 0 => 0
  | k + 1 => if f (k + 1) < f (bi f k) then k + 1 else bi f k
theorem bi_le (f : Nat → Int) : ∀ k, bi f k ≤ k
  | 0 => Nat.le_refl _
  | k + 1 => by
    have := bi_le f k
    unfold bi
    split <;> omega
theorem bi_yes {f : Nat → Int} {k : Nat} (h : f (k + 1) < f (bi f k)) : bi f (k + 1) = k + 1 := by
  show (if f (k + 1) < f (bi f k) then k + 1 else bi f k) = _
  rw [if_pos h]
theorem bi_no {f : Nat → Int} {k : Nat} (h : ¬ f (k + 1) < f (bi f k)) : bi f (k + 1) = bi f k := by
  show (if f (k + 1) < f (bi f k) then k + 1 else bi f k) = _
  rw [if_neg h]
def cmpI (x y : Int) : Int := if x < y then -1 else if y < x then 1 else 0
theorem nan_any (x : Int) (w : World) : Calls Tryd.prog 115 #[.int .i64 x] w fun e w' => e = .returned (.bool false) ∧ Below w.heap.size w w' := by
  go_enter Tryd.func115, Tryd.ntmps115
  go_wp2
  go_ret
  exact ⟨by first | rfl | simp, Below.refl _ _⟩
set_option maxHeartbeats 1000000 in
theorem cmp_any (x y : Int) (w : World) : Calls Tryd.prog 70 #[.int .i64 x, .int .i64 y] w fun e w' => e = .returned (.int .i64 (cmpI x y)) ∧ Below w.heap.size w w' := by
  have hB := Go.Lib.hid (Below.refl w.heap.size w)
  unfold cmpI
  by_cases h1 : x < y
  · rw [if_pos h1]
    have d1 : decide (x < y) = true := by simpa using h1
    go_enter Tryd.func70, Tryd.ntmps70
    go_wp2_with (first
      | go_skip
      | (go_at_call 115; (refine (nan_any _ _).mono ?_); rintro o w1 ⟨rfl, hb⟩; replace hB := Go.Lib.hid (below_next hB.out hb); clear hb))
    go_ret
    exact ⟨rfl, hB.out⟩
  · rw [if_neg h1]
    have d1 : decide (x < y) = false := by simpa using h1
    by_cases h2 : y < x
    · rw [if_pos h2]
      have d2 : decide (y < x) = true := by simpa using h2
      go_enter Tryd.func70, Tryd.ntmps70
      go_wp2_with (first
        | go_skip
        | (go_at_call 115; (refine (nan_any _ _).mono ?_); rintro o w1 ⟨rfl, hb⟩; replace hB := Go.Lib.hid (below_next hB.out hb); clear hb))
      go_ret
      exact ⟨rfl, hB.out⟩
    · rw [if_neg h2]
      have d2 : decide (y < x) = false := by simpa using h2
      go_enter Tryd.func70, Tryd.ntmps70
      go_wp2_with (first
        | go_skip
        | (go_at_call 115; (refine (nan_any _ _).mono ?_); rintro o w1 ⟨rfl, hb⟩; replace hB := Go.Lib.hid (below_next hB.out hb); clear hb))
      go_ret
      exact ⟨rfl, hB.out⟩
theorem folA_ok {s : Sh} {a c : Nat} (ea : s.wide = a) (ec : s.high = c) (ha : 1 ≤ a ∧ a ≤ 8) (hc : 1 ≤ c ∧ c ≤ 8) {t : Int × Bool × Int} (h : t ∈ folA a c) : foldOk s t.1 t.2.1 t.2.2 = true ∧ (1 ≤ t.1 ∧ t.1 ≤ 8) := by
  unfold folA folK at h
  rcases List.mem_append.1 h with h | h
  · obtain ⟨i, hi, rfl⟩ := List.mem_map.1 h
    have := List.mem_range.1 hi
    refine ⟨?_, by dsimp only; omega⟩
    simp [foldOk, ea]; omega
  · obtain ⟨i, hi, rfl⟩ := List.mem_map.1 h
    have := List.mem_range.1 hi
    refine ⟨?_, by dsimp only; omega⟩
    simp [foldOk, ec]; omega
theorem folA_len (a c : Nat) : (folA a c).length = (a - 1) + (c - 1) := by unfold folA; rw [List.length_append, folK_len, folK_len]
set_option maxHeartbeats 4000000 in
theorem bf1_any (s : Sh) (ax : Int) (d : Bool) (pr : Int) (a c b1 : Nat) (w : World) (h1 : w.heap[b1]? = some (.cells (vrow 266 s.at) 34)) (hf : s.fit) (hv : (okI s && foldOk s ax d pr) = true) (ho : okI s = true) (hax : 1 ≤ ax ∧ ax ≤ 8) (ea : s.wide = a) (ec : s.high = c) (ha : a ≤ 8) (hc : c ≤ 8) : Calls Tryd.prog 65 #[.agg (vrow 3 (foAt ax d pr)), .pointer (some ⟨b1, 0, none⟩)] w fun e w' => e = .returned (.int .i64 (offF s a c (ax, d, pr))) ∧ Below w.heap.size w w' := by
  have HP := fun w => pairs_any s ax d pr a c w hf hv hax ea ec ha hc
  have HO := fun w v B (h : PRO w v ax d (prsL s a c ax d) B) => offBy_any s ax d (prsL s a c ax d) v B w ho (prsL_in s ha hc) (prsL_len s ha hc) h
  obtain ⟨R, hR⟩ : ∃ R : Value, Value.int .i64 (offF s a c (ax, d, pr)) = R := ⟨_, rfl⟩
  rw [show Value.int .i64 (oS (gq s ax d (prsL s a c ax d)) (prsL s a c ax d).length) = R from hR] at HO
  rw [hR]
  clear hR
  generalize prsL s a c ax d = L at *
  have F : Hid ((w.alloc (.cells (vrow 3 (foAt ax d pr)) 38)).heap[w.heap.size]? = some (.cells (vrow 3 (foAt ax d pr)) 38)) := (heap_at _ _ _ (by simp))
  have hB : Hid (Below w.heap.size w (w.alloc (.cells (vrow 3 (foAt ax d pr)) 38))) := Go.Lib.hid ((Below.refl w.heap.size w).alloc (by simp <;> omega) _)
  have P : Hid ((w.alloc (.cells (vrow 3 (foAt ax d pr)) 38)).heap[b1]? = some (.cells (vrow 266 s.at) 34)) := heap_past _ _ _ _ (row_lt h1) h1
  clear h1 hv ho ea ec
  go_enter Tryd.func65, Tryd.ntmps65
  go_wp2
  refine Code.wp_mono (Q := fun e a' W' => e = .normal ∧ (∃ v, a' = { tmps := #[.agg (vrow 3 (foAt ax d pr)), .pointer (some ⟨b1, 0, none⟩), .pointer (some ⟨w.heap.size, 0, none⟩), R, .agg (vrow 266 s.at), .agg (vrow 266 s.at), .agg (vrow 3 (foAt ax d pr)), v, R], defers := [] }) ∧ Below w.heap.size w W') ?_ ?_
  rotate_left
  · refine wp_region_held_drew (S := fun X => Below w.heap.size w X ∧ X.heap[b1]? = some (.cells (vrow 266 s.at) 34) ∧ X.heap[w.heap.size]? = some (.cells (vrow 3 (foAt ax d pr)) 38)) (by kernel_rfl) ⟨hB.out.drew, P.out, F.out⟩ (fun hH => ?_)
    clear hB P F
    generalize World.drew _ = W at hH ⊢
    refine wpAnyH_take (i := 0) (v := (.agg (vrow 266 s.at))) rfl (by kernel_rfl) (by kernel_rfl) (by kernel_rfl) (fun _ _ _ h => by cases h.1) (yields_row (by kernel_rfl) 34 _ rfl b1 rfl 266 s.at 34 _ Tryd.underlying34 rfl size_sheet (fun _ h => h.2.1)) hH ?_
    (try simp only [List.getElem_toArray, List.getElem_cons_succ, List.getElem_cons_zero, Act.put, List.setIfInBounds_toArray, List.set_cons_succ, List.set_cons_zero])
    refine wpAnyH_take (i := 1) (v := (.agg (vrow 266 s.at))) rfl (by kernel_rfl) (by kernel_rfl) (by kernel_rfl) (fun _ _ _ h => by cases h.1) (yields_row (by kernel_rfl) 34 _ rfl b1 rfl 266 s.at 34 _ Tryd.underlying34 rfl size_sheet (fun _ h => h.2.1)) hH ?_
    (try simp only [List.getElem_toArray, List.getElem_cons_succ, List.getElem_cons_zero, Act.put, List.setIfInBounds_toArray, List.set_cons_succ, List.set_cons_zero])
    refine wpAnyH_take (i := 2) (v := (.agg (vrow 3 (foAt ax d pr)))) rfl (by kernel_rfl) (by kernel_rfl) (by kernel_rfl) (fun _ _ _ h => by cases h.1) (yields_row (by kernel_rfl) 38 _ rfl w.heap.size rfl 3 (foAt ax d pr) 38 _ Tryd.underlying38 rfl size_fold (fun _ h => h.2.2)) hH ?_
    (try simp only [List.getElem_toArray, List.getElem_cons_succ, List.getElem_cons_zero, Act.put, List.setIfInBounds_toArray, List.set_cons_succ, List.set_cons_zero])
    refine wpAnyH_ready (rs := [3]) (by kernel_rfl) (by simp) (AllReadyH.cons rfl (fun K hK => ?_) AllReadyH.nil)
    rw [if_pos (by rfl)]
    go_simp
    go_at_call 67
    refine (HP _).mono ?_
    rintro o X ⟨v, rfl, hO, hb⟩
    replace hH : Below w.heap.size w X ∧ X.heap[b1]? = some (.cells (vrow 266 s.at) 34) ∧ X.heap[w.heap.size]? = some (.cells (vrow 3 (foAt ax d pr)) 38) := ⟨hH.1.trans (hb.mono hH.1.size), row_next hb hH.2.1, row_next hb hH.2.2⟩
    have hPO := own_pro hO
    clear hO hb
    refine hK.out _ _ hH (fun hH => ?_)
    clear hK K
    (try simp only [List.getElem_toArray, List.getElem_cons_succ, List.getElem_cons_zero, Act.put, List.setIfInBounds_toArray, List.set_cons_succ, List.set_cons_zero])
    refine wpAnyH_ready (rs := [4]) (by kernel_rfl) (by simp) (AllReadyH.cons rfl (fun K hK => ?_) AllReadyH.nil)
    rw [if_pos (by rfl)]
    go_simp
    go_at_call 66
    refine (HO _ _ _ hPO).mono ?_
    rintro o Y ⟨rfl, hb⟩
    replace hH : Below w.heap.size w Y ∧ Y.heap[b1]? = some (.cells (vrow 266 s.at) 34) ∧ Y.heap[w.heap.size]? = some (.cells (vrow 3 (foAt ax d pr)) 38) := ⟨hH.1.trans (hb.mono hH.1.size), row_next hb hH.2.1, row_next hb hH.2.2⟩
    clear hb
    refine hK.out _ _ hH (fun hH => ?_)
    clear hK K
    (try simp only [List.getElem_toArray, List.getElem_cons_succ, List.getElem_cons_zero, Act.put, List.setIfInBounds_toArray, List.set_cons_succ, List.set_cons_zero])
    refine wpAnyH_take (i := 5) (v := R) rfl (by kernel_rfl) (by kernel_rfl) (by kernel_rfl) (fun _ _ _ h => by cases h.1) (.inl ⟨by kernel_rfl, fun w _ => by go_simp⟩) hH ?_
    (try simp only [List.getElem_toArray, List.getElem_cons_succ, List.getElem_cons_zero, Act.put, List.setIfInBounds_toArray, List.set_cons_succ, List.set_cons_zero])
    refine wpAnyH_done (by kernel_rfl) ?_ _
    exact ⟨rfl, ⟨_, rfl⟩, hH.1⟩
  rintro e1 a1 W1 ⟨rfl, ⟨v, rfl⟩, hB1⟩
  go_wp2
  go_ret
  exact ⟨rfl, hB1⟩
theorem rw_func1 : (Tryd.prog.underlying 104).map (·.isRow) = some false := by kernel_rfl
set_option maxHeartbeats 4000000 in
theorem bf2_any (s : Sh) (t u : Int × Bool × Int) (x y : Int) (b1 b7 : Nat) (w : World) (h1 : w.heap[b1]? = some (.cells (vrow 266 s.at) 34)) (h7 : w.heap[b7]? = some (.cells (vrow 1 fun _ => .func (.func 65) #[] #[.pointer (some ⟨b1, 0, none⟩)]) 104))
    (H1 : ∀ W, W.heap[b1]? = some (.cells (vrow 266 s.at) 34) → Calls Tryd.prog 65 #[.agg (vrow 3 (foAt t.1 t.2.1 t.2.2)), .pointer (some ⟨b1, 0, none⟩)] W fun e w' => e = .returned (.int .i64 x) ∧ Below W.heap.size W w')
    (H2 : ∀ W, W.heap[b1]? = some (.cells (vrow 266 s.at) 34) → Calls Tryd.prog 65 #[.agg (vrow 3 (foAt u.1 u.2.1 u.2.2)), .pointer (some ⟨b1, 0, none⟩)] W fun e w' => e = .returned (.int .i64 y) ∧ Below W.heap.size W w') :
    Calls Tryd.prog 69 #[.agg (vrow 3 (foAt t.1 t.2.1 t.2.2)), .agg (vrow 3 (foAt u.1 u.2.1 u.2.2)), .pointer (some ⟨b7, 0, none⟩)] w fun e w' => e = .returned (.int .i64 (cmpI x y)) ∧ Below w.heap.size w w' := by
  have HA := Go.Lib.hid H1; have HB2 := Go.Lib.hid H2
  clear H1 H2
  have X : Hid (((w.alloc (.cells (vrow 3 (foAt t.1 t.2.1 t.2.2)) 38)).alloc (.cells (vrow 3 (foAt u.1 u.2.1 u.2.2)) 38)).heap[w.heap.size]? = some (.cells (vrow 3 (foAt t.1 t.2.1 t.2.2)) 38)) := (heap_past _ _ _ _ (by simp <;> omega) (heap_at _ _ _ (by simp)))
  have Y : Hid (((w.alloc (.cells (vrow 3 (foAt t.1 t.2.1 t.2.2)) 38)).alloc (.cells (vrow 3 (foAt u.1 u.2.1 u.2.2)) 38)).heap[w.heap.size + 1]? = some (.cells (vrow 3 (foAt u.1 u.2.1 u.2.2)) 38)) := (heap_at _ _ _ (by simp))
  have hB : Hid (Below w.heap.size w ((w.alloc (.cells (vrow 3 (foAt t.1 t.2.1 t.2.2)) 38)).alloc (.cells (vrow 3 (foAt u.1 u.2.1 u.2.2)) 38))) := Go.Lib.hid (((Below.refl w.heap.size w).alloc (by simp <;> omega) _).alloc (by simp <;> omega) _)
  have P : Hid (((w.alloc (.cells (vrow 3 (foAt t.1 t.2.1 t.2.2)) 38)).alloc (.cells (vrow 3 (foAt u.1 u.2.1 u.2.2)) 38)).heap[b1]? = some (.cells (vrow 266 s.at) 34)) := heap_past _ _ _ _ (by have := row_lt h1; simp; omega) (heap_past _ _ _ _ (row_lt h1) h1)
  have C : Hid (((w.alloc (.cells (vrow 3 (foAt t.1 t.2.1 t.2.2)) 38)).alloc (.cells (vrow 3 (foAt u.1 u.2.1 u.2.2)) 38)).heap[b7]? = some (.cells (vrow 1 fun _ => .func (.func 65) #[] #[.pointer (some ⟨b1, 0, none⟩)]) 104)) := heap_past _ _ _ _ (by have := row_lt h7; simp; omega) (heap_past _ _ _ _ (row_lt h7) h7)
  clear h1 h7
  go_enter Tryd.func69, Tryd.ntmps69
  go_wp2
  refine region_at (by kernel_rfl) (by kernel_rfl) ?_
  intro W hW
  rw [hW] at hB X Y P C
  clear hW
  have X' := Go.Lib.hid (cls_row' X.out); have Y' := Go.Lib.hid (cls_row' Y.out); have C' := Go.Lib.hid (cls_row' C.out)
  (repeat (first
    | go_big_quiet_skip
    | (refine wpQuiet_load1 104 _ rfl (by first | exact want_n rfl | exact want_g _ _ _ rfl rfl rfl) b7 _ rfl 1 (fun _ => .func (.func 65) #[] #[.pointer (some ⟨b1, 0, none⟩)]) _ rw_func1 C'.out (by omega) ?_; simp only [Act.put, List.setIfInBounds_toArray, List.set_cons_succ, List.set_cons_zero])
    | (refine wpQuiet_loadmid 38 _ rfl (by first | exact want_n rfl | exact want_g _ _ _ rfl rfl rfl) w.heap.size 0 rfl 3 3 (foAt t.1 t.2.1 t.2.2) _ rw_fold size_fold X'.out (by omega) ?_; simp only [Nat.zero_add]; simp only [Act.put, List.setIfInBounds_toArray, List.set_cons_succ, List.set_cons_zero])
    | (refine wpQuiet_loadmid 38 _ rfl (by first | exact want_n rfl | exact want_g _ _ _ rfl rfl rfl) (w.heap.size + 1) 0 rfl 3 3 (foAt u.1 u.2.1 u.2.2) _ rw_fold size_fold Y'.out (by omega) ?_; simp only [Nat.zero_add]; simp only [Act.put, List.setIfInBounds_toArray, List.set_cons_succ, List.set_cons_zero])
    | go_big_quiet_step (first | (go_at_call 70; exact cls_call _ (fun w hw => cmp_any x y w)) | (go_at_call 65; first | exact cls_call _ (fun w hw => HA.out w (row_next hw P.out)) | exact cls_call _ (fun w hw => HB2.out w (row_next hw P.out))))))
  refine wpQuiet_nil ?_
  intro W2 hb
  replace hB := Go.Lib.hid (below_next hB.out hb)
  clear hb X' Y' C'
  go_wp2
  go_ret
  exact ⟨rfl, hB.out⟩
theorem zero_foldB : ∀ w, (zeroValue 38).run Tryd.prog w = .ok (.agg (vrow 3 (foAt 0 false 0))) w := fun _ => by kernel_rfl
theorem foAt_oneB (a : Int) (b : Bool) (c : Int) (i : Nat) : (foAt a b c i).oneCell' = true := by unfold foAt; split <;> (try split) <;> rfl
theorem cmpI_lt {x y : Int} (h : x < y) : decide (cmpI x y < 0) = true := by unfold cmpI; rw [if_pos h]; rfl
theorem cmpI_ge {x y : Int} (h : ¬ x < y) : decide (cmpI x y < 0) = false := by unfold cmpI; rw [if_neg h]; split <;> rfl
/-- the best fold among the first k + 1 -/
def bst (f : (Int × Bool × Int) → Int) (L : List (Int × Bool × Int)) (k : Nat) : Int × Bool × Int := L.getD (bi (fun i => f (L.getD i (0, false, 0))) k) (0, false, 0)
theorem bst_0 (f : (Int × Bool × Int) → Int) (L : List (Int × Bool × Int)) : bst f L 0 = L.getD 0 (0, false, 0) := rfl
theorem bst_yes {f : (Int × Bool × Int) → Int} {L : List (Int × Bool × Int)} {k : Nat} (h : f (L.getD (k + 1) (0, false, 0)) < f (bst f L k)) : bst f L (k + 1) = L.getD (k + 1) (0, false, 0) := by
  unfold bst; rw [bi_yes (f := fun i => f (L.getD i (0, false, 0))) h]
theorem bst_no {f : (Int × Bool × Int) → Int} {L : List (Int × Bool × Int)} {k : Nat} (h : ¬ f (L.getD (k + 1) (0, false, 0)) < f (bst f L k)) : bst f L (k + 1) = bst f L k := by
  unfold bst; rw [bi_no (f := fun i => f (L.getD i (0, false, 0))) h]
theorem bst_mem (f : (Int × Bool × Int) → Int) (L : List (Int × Bool × Int)) (k : Nat) (hk : k < L.length) : bst f L k ∈ L := by
  have := bi_le (fun i => f (L.getD i (0, false, 0))) k
  unfold bst
  rw [List.getD_eq_getElem?_getD, List.getElem?_eq_getElem (by omega)]
  exact List.getElem_mem _
theorem rowF_at {F : Nat → Value} {L : List (Int × Bool × Int)} (h : rowF F L) {k : Nat} (hk : k < L.length) : vrow 3 (fun j => F (k * 3 + j)) = vrow 3 (foAt (L.getD k (0, false, 0)).1 (L.getD k (0, false, 0)).2.1 (L.getD k (0, false, 0)).2.2) := by
  rw [h k hk, List.getD_eq_getElem?_getD, List.getElem?_eq_getElem hk]; rfl
set_option maxRecDepth 100000 in
set_option maxHeartbeats 8000000 in
theorem minF_any (f : (Int × Bool × Int) → Int) (L : List (Int × Bool × Int)) (v : Value) (B b7 : Nat) (w : World) (hn : 0 < L.length) (hl : L.length ≤ 64) (hP : PF w v L B)
    (HC0 : ∀ t u W, t ∈ L → u ∈ L → Below w.heap.size w W → Calls Tryd.prog 69 #[.agg (vrow 3 (foAt t.1 t.2.1 t.2.2)), .agg (vrow 3 (foAt u.1 u.2.1 u.2.2)), .pointer (some ⟨b7, 0, none⟩)] W fun e w' => e = .returned (.int .i64 (cmpI (f t) (f u))) ∧ Below W.heap.size W w') :
    Calls Tryd.prog 68 #[v, .func (.func 69) #[] #[.pointer (some ⟨b7, 0, none⟩)]] w fun e w' => e = .returned (.agg (vrow 3 (foAt (bst f L (L.length - 1)).1 (bst f L (L.length - 1)).2.1 (bst f L (L.length - 1)).2.2))) ∧ Below w.heap.size w w' := by
  obtain ⟨ao, cp, rfl, hr⟩ := hP
  rcases hr with h0 | ⟨g, N, F, rfl, hg, hN, hrow, hF⟩
  · omega
  have zf := zero_foldB
  have hgl := row_lt hrow
  have H0 := Go.Lib.hid (rowF_at hF hn)
  rw [Nat.zero_mul] at H0
  obtain ⟨t0, ht0⟩ : ∃ z, L.getD 0 (0, false, 0) = z := ⟨_, rfl⟩
  rw [ht0] at H0
  have HT0 := Go.Lib.hid ht0
  clear ht0
  have Z : Hid ((w.alloc (.cells (vrow 3 (foAt 0 false 0)) 38)).heap[w.heap.size]? = some (.cells (vrow 3 (foAt 0 false 0)) 38)) := (heap_at _ _ _ (by simp))
  have hB : Hid (Below w.heap.size w (w.alloc (.cells (vrow 3 (foAt 0 false 0)) 38))) := Go.Lib.hid ((Below.refl w.heap.size w).alloc (by simp <;> omega) _)
  have Gr : Hid ((w.alloc (.cells (vrow 3 (foAt 0 false 0)) 38)).heap[g]? = some (.cells (vrow N F) 38)) := heap_past _ _ _ _ hgl hrow
  have hlI : (1 : Int) ≤ (L.length : Int) := by omega
  have hld : decide ((L.length : Int) < 1) = false := by simp; omega
  clear hrow
  go_enter Tryd.func68, Tryd.ntmps68
  go_wp2_with (first
    | go_skip
    | ((with_reducible refine wlAt 13 rfl ?_); have hz := row_lt Z.out; generalize World.alloc w _ = W0 at Z Gr hB hz ⊢; refine wpList_loadmid rfl 38 (.tmp 12) rfl g 0 rfl N 3 F 38 _ Tryd.underlying38 rfl size_fold Gr.out (by omega) ?_; rw [H0.out])
    | ((with_reducible refine wlOp (.store 38 (.tmp 5) (.tmp 13)) rfl ?_); refine wpList_storeall rfl 38 (.tmp 5) (.tmp 13) rfl _ rfl 3 (foAt 0 false 0) (foAt t0.1 t0.2.1 t0.2.2) rfl 38 size_fold (heap_at _ _ _ rfl) (fun i _ => foAt_oneB _ _ _ i) ?_; rw [setRow_at _ _ _ _ _ rfl]; have X := Go.Lib.hid (heap_at W0 (.cells (vrow 3 (foAt t0.1 t0.2.1 t0.2.2)) 38) _ rfl); replace Z := Go.Lib.hid (heap_past W0 (.cells (vrow 3 (foAt t0.1 t0.2.1 t0.2.2)) 38) _ _ (row_lt Z.out) Z.out); replace Gr := Go.Lib.hid (heap_past W0 (.cells (vrow 3 (foAt t0.1 t0.2.1 t0.2.2)) 38) _ _ (row_lt Gr.out) Gr.out); replace hB := Go.Lib.hid (hB.out.alloc hB.out.size (.cells (vrow 3 (foAt t0.1 t0.2.1 t0.2.2)) 38)); obtain ⟨xb, hxb⟩ : ∃ z, W0.heap.size = z := ⟨_, rfl⟩; rw [hxb] at X hz ⊢; generalize World.alloc W0 _ = W1 at X Z Gr hB ⊢; clear hxb))
  have Z0 := Z.out; have X0 := X.out; have G0 := Gr.out; have B0 := hB.out
  clear Z X Gr hB
  go_loopw [6] (fun iv wr => ∃ k : Nat, k < L.length ∧ iv = .int .i64 ((k : Int) + 1) ∧ wr.heap[xb]? = some (.cells (vrow 3 (foAt (bst f L k).1 (bst f L k).2.1 (bst f L k).2.2)) 38) ∧ wr.heap[w.heap.size]? = some (.cells (vrow 3 (foAt 0 false 0)) 38) ∧ wr.heap[g]? = some (.cells (vrow N F) 38) ∧ Below w.heap.size w wr) (fun iv _ => 70 - (intOf iv).toNat)
  case atStart => exact ⟨0, hn, rfl, by rw [bst_0, HT0.out]; exact X0, Z0, G0, B0⟩
  case round =>
    clear X0 Z0 G0 B0
    obtain ⟨k, hk, rfl, X, Z, Gr, hB⟩ := hrel
    by_cases hlt : k + 1 < L.length
    · have hkI : (k : Int) + 1 < (L.length : Int) := by omega
      have hk0 : (0 : Int) ≤ (k : Int) := by omega
      have hkd : decide ((k : Int) + 1 < (L.length : Int)) = true := by simpa using hkI
      have HR := Go.Lib.hid (rowF_at hF hlt)
      have hmem : L.getD (k + 1) (0, false, 0) ∈ L := by rw [List.getD_eq_getElem?_getD, List.getElem?_eq_getElem hlt]; exact List.getElem_mem _
      have HC := Go.Lib.hid fun W hb => HC0 _ _ W hmem (bst_mem f L k hk) hb
      have hy := bst_yes (f := f) (L := L) (k := k); have hno := bst_no (f := f) (L := L) (k := k)
      generalize bst f L k = bk at *
      generalize L.getD (k + 1) (0, false, 0) = gk at *
      replace X := Go.Lib.hid X; replace Z := Go.Lib.hid Z; replace Gr := Go.Lib.hid Gr; replace hB := Go.Lib.hid hB
      go_wp2
      refine region_at (by kernel_rfl) (by kernel_rfl) ?_
      intro W hW
      rw [hW] at hB X Z Gr
      clear hW
      have X' := Go.Lib.hid (cls_row' X.out); have G' := Go.Lib.hid (cls_row' Gr.out)
      (repeat (first
        | go_big_quiet_skip
        | (refine wpQuiet_loadmid 38 _ rfl (by first | exact want_n rfl | exact want_g _ _ _ rfl rfl rfl) g ((k + 1) * 3) rfl N 3 F _ rw_fold size_fold G'.out (by omega) ?_; rw [HR.out]; simp only [Act.put, List.setIfInBounds_toArray, List.set_cons_succ, List.set_cons_zero])
        | (refine wpQuiet_loadmid 38 _ rfl (by first | exact want_n rfl | exact want_g _ _ _ rfl rfl rfl) xb 0 rfl 3 3 (foAt bk.1 bk.2.1 bk.2.2) _ rw_fold size_fold X'.out (by omega) ?_; simp only [Nat.zero_add]; simp only [Act.put, List.setIfInBounds_toArray, List.set_cons_succ, List.set_cons_zero])
        | go_big_quiet_step ((go_at_call 69; exact cls_call _ (fun w hw => HC.out w (below_next hB.out hw))))))
      refine wpQuiet_nil ?_
      intro W2 hb
      replace X := Go.Lib.hid (row_next hb X.out); replace Z := Go.Lib.hid (row_next hb Z.out); replace Gr := Go.Lib.hid (row_next hb Gr.out); replace hB := Go.Lib.hid (below_next hB.out hb)
      clear hb X' G'
      by_cases hlt2 : f gk < f bk
      · have HD := Go.Lib.hid (hy hlt2)
        have hcd := cmpI_lt hlt2
        have hcp : cmpI (f gk) (f bk) < 0 := by simpa using hcd
        go_wp2_with (first
          | go_skip
          | ((with_reducible refine wlAt 31 rfl ?_); refine wpList_loadmid rfl 38 (.tmp 30) rfl g ((k + 1) * 3) rfl N 3 F 38 _ Tryd.underlying38 rfl size_fold Gr.out (by omega) ?_; rw [HR.out])
          | ((with_reducible refine wlOp (.store 38 (.tmp 5) (.tmp 31)) rfl ?_); refine wpList_storeall rfl 38 (.tmp 5) (.tmp 31) rfl xb rfl 3 (foAt bk.1 bk.2.1 bk.2.2) (foAt gk.1 gk.2.1 gk.2.2) rfl 38 size_fold X.out (fun i _ => foAt_oneB _ _ _ i) ?_; replace X := Go.Lib.hid (row_set X.out (vrow 3 (foAt gk.1 gk.2.1 gk.2.2))); replace Z := Go.Lib.hid (row_set' (g := xb) (by omega) Z.out (vrow 3 (foAt gk.1 gk.2.1 gk.2.2))); replace Gr := Go.Lib.hid (row_set' (g := xb) (by omega) Gr.out (vrow 3 (foAt gk.1 gk.2.1 gk.2.2))); replace hB := Go.Lib.hid (Below_setRow hB.out (show w.heap.size ≤ xb by omega) (vrow 3 (foAt gk.1 gk.2.1 gk.2.2)))))
        go_roundw
        case rel => exact ⟨k + 1, hlt, by go_num, by rw [HD.out]; exact X.out, Z.out, Gr.out, hB.out⟩
        case measure => simp [intOf]; omega
      · have HD := Go.Lib.hid (hno (by omega))
        have hcd := cmpI_ge hlt2
        have hcp : ¬ cmpI (f gk) (f bk) < 0 := by simpa using hcd
        go_wp2
        go_roundw
        case rel => exact ⟨k + 1, hlt, by go_num, by rw [HD.out]; exact X.out, Z.out, Gr.out, hB.out⟩
        case measure => simp [intOf]; omega
    · have hke : L.length - 1 = k := by omega
      have hkd : decide ((k : Int) + 1 < (L.length : Int)) = false := by simp; omega
      rw [← hke] at X
      obtain ⟨bk, hbk⟩ : ∃ z, bst f L (L.length - 1) = z := ⟨_, rfl⟩
      rw [hbk] at X
      have HBK := Go.Lib.hid hbk
      clear hbk
      replace X := Go.Lib.hid X; replace Z := Go.Lib.hid Z; replace hB := Go.Lib.hid hB
      go_wp2_with (first
        | go_skip
        | ((with_reducible refine wlAt 32 rfl ?_); refine wpList_loadall rfl 38 (.tmp 5) rfl xb rfl 3 (foAt bk.1 bk.2.1 bk.2.2) 38 _ Tryd.underlying38 rfl size_fold X.out ?_)
        | ((with_reducible refine wlOp (.store 38 (.tmp 4) (.tmp 32)) rfl ?_); refine wpList_storeall rfl 38 (.tmp 4) (.tmp 32) rfl w.heap.size rfl 3 (foAt 0 false 0) (foAt bk.1 bk.2.1 bk.2.2) rfl 38 size_fold Z.out (fun i _ => foAt_oneB _ _ _ i) ?_; replace Z := Go.Lib.hid (row_set Z.out (vrow 3 (foAt bk.1 bk.2.1 bk.2.2))); replace hB := Go.Lib.hid (Below_setRow hB.out (Nat.le_refl _) (vrow 3 (foAt bk.1 bk.2.1 bk.2.2)))))
      exact ret_row Tryd.results68 w.heap.size 3 (foAt bk.1 bk.2.1 bk.2.2) 38 _ Tryd.underlying38 rfl size_fold rfl rfl Z.out ⟨by rw [HBK.out], hB.out⟩
end Go.Proofs.YtmcpaangofdmpaaDoor
