import Derived.Deep.RegionHeld3
import Derived.Test.YthbhckalkkameaaDoorTurn
namespace Go.Proofs.YthbhckalkkameaaDoor
open Go.RowKit
set_option maxRecDepth 100000
set_option linter.unusedVariables false
set_option linter.unusedSimpArgs false
theorem drwT {w : World} {b : Nat} {x : Obj} (h : w.heap[b]? = some x) : w.drew.heap[b]? = some x := h
def prX (ax : Int) (d : Bool) (x : Int) : Int := if d then x else 2 * ax - 1 - x
def prY (ax : Int) (d : Bool) (y : Int) : Int := if d then 2 * ax - 1 - y else y
set_option maxHeartbeats 2000000 in
theorem pc_bad (s : Sh) (ax : Int) (d : Bool) (p : Int) (x y : Int) (b1 b2 b3 : Nat) (w : World) (h1 : w.heap[b1]? = some (.cells (vrow 3 (foAt ax d p)) 41)) (h2 : w.heap[b2]? = some (.cells (vrow 266 s.at) 39)) (h3 : w.heap[b3]? = some (.cells (vrow 2 (spAt x y)) 36)) (hv : (okI s && foldOk s ax d p) = false) (hf : s.fit := by assumption) : Calls Tryd.prog 60 #[.pointer (some ⟨b1, 0, none⟩), .pointer (some ⟨b2, 0, none⟩), .pointer (some ⟨b3, 0, none⟩)] w fun e w' => e = .panicked [{ v := .iface 141 (.agg #[.int .i8 ax, .bool d, .int .i8 p]), recovered := false }] ∧ Below w.heap.size w w' := by
  have HM := Go.Lib.hid fun w => must_bad s ax d p w hv
  have zz := zero_spot
  have hB : Hid (Below w.heap.size w (w.alloc (.cells (vrow 2 (spAt 0 0)) 36))) := Go.Lib.hid ((Below.refl w.heap.size w).alloc (Nat.le_refl _) _)
  have F := Go.Lib.hid (heap_past w (.cells (vrow 2 (spAt 0 0)) 36) _ _ (row_lt h1) h1)
  have P := Go.Lib.hid (heap_past w (.cells (vrow 2 (spAt 0 0)) 36) _ _ (row_lt h2) h2)
  have R := Go.Lib.hid (heap_past w (.cells (vrow 2 (spAt 0 0)) 36) _ _ (row_lt h3) h3)
  have Z := Go.Lib.hid (heap_at w (.cells (vrow 2 (spAt 0 0)) 36) _ rfl)
  go_enter Tryd.func60, Tryd.ntmps60
  go_wp2_with (first
    | go_skip
    | ((with_reducible refine wlAt 4 rfl ?_); refine wpList_loadall rfl 41 (.tmp 0) rfl b1 rfl 3 (foAt ax d p) 41 _ Tryd.underlying41 rfl size_fold F.out ?_)
    | ((with_reducible refine wlAt 5 rfl ?_); refine wpList_loadall rfl 39 (.tmp 1) rfl b2 rfl 266 s.at 39 _ Tryd.underlying39 rfl size_sheet P.out ?_)
    | (go_at_call 61; (refine (HM.out _).mono ?_); rintro o w1 ⟨rfl, hb⟩; replace F := Go.Lib.hid (row_next hb F.out); replace P := Go.Lib.hid (row_next hb P.out); replace R := Go.Lib.hid (row_next hb R.out); replace Z := Go.Lib.hid (row_next hb Z.out); replace hB := Go.Lib.hid (below_next hB.out hb); clear hb))
  exact ⟨rfl, rfl, hB.out⟩
set_option maxHeartbeats 4000000 in
theorem pc_true (s : Sh) (ax : Int) (p : Int) (x y : Int) (b1 b2 b3 : Nat) (w : World) (h1 : w.heap[b1]? = some (.cells (vrow 3 (foAt ax true p)) 41)) (h2 : w.heap[b2]? = some (.cells (vrow 266 s.at) 39)) (h3 : w.heap[b3]? = some (.cells (vrow 2 (spAt x y)) 36)) (hv : (okI s && foldOk s ax true p) = true) (hax : 1 ≤ ax ∧ ax ≤ 8) (hx : 0 ≤ x ∧ x ≤ 8) (hy : 0 ≤ y ∧ y ≤ 8) (hf : s.fit := by assumption) : Calls Tryd.prog 60 #[.pointer (some ⟨b1, 0, none⟩), .pointer (some ⟨b2, 0, none⟩), .pointer (some ⟨b3, 0, none⟩)] w fun e w' => e = .returned (.agg (vrow 2 (spAt x (2 * ax - 1 - y)))) ∧ Below w.heap.size w w' := by
  have HM := Go.Lib.hid fun w => must_ok s ax true p w hv
  have HT : ∀ w, Calls Tryd.prog 62 #[.agg (vrow 3 (foAt ax true p))] w fun e w' => e = .returned (.func (.func 109) #[] #[.pointer (some ⟨w.heap.size + 1, 0, none⟩)]) ∧ w'.heap[w.heap.size + 1]? = some (.cells (vrow 1 fun _ => .int .i8 (2 * ax - 1)) 22) ∧ Below w.heap.size w w' := fun w => turn_any ax true p w hax
  have hw1 : -128 ≤ 2 * ax - 1 - y ∧ 2 * ax - 1 - y ≤ 127 := by omega
  have zz := zero_spot
  have hB : Hid (Below w.heap.size w (w.alloc (.cells (vrow 2 (spAt 0 0)) 36))) := Go.Lib.hid ((Below.refl w.heap.size w).alloc (Nat.le_refl _) _)
  have F := Go.Lib.hid (heap_past w (.cells (vrow 2 (spAt 0 0)) 36) _ _ (row_lt h1) h1)
  have P := Go.Lib.hid (heap_past w (.cells (vrow 2 (spAt 0 0)) 36) _ _ (row_lt h2) h2)
  have R := Go.Lib.hid (heap_past w (.cells (vrow 2 (spAt 0 0)) 36) _ _ (row_lt h3) h3)
  have Z := Go.Lib.hid (heap_at w (.cells (vrow 2 (spAt 0 0)) 36) _ rfl)
  go_enter Tryd.func60, Tryd.ntmps60
  go_wp2_with (first
    | go_skip
    | ((with_reducible refine wlAt 4 rfl ?_); refine wpList_loadall rfl 41 (.tmp 0) rfl b1 rfl 3 (foAt ax true p) 41 _ Tryd.underlying41 rfl size_fold F.out ?_)
    | ((with_reducible refine wlAt 5 rfl ?_); refine wpList_loadall rfl 39 (.tmp 1) rfl b2 rfl 266 s.at 39 _ Tryd.underlying39 rfl size_sheet P.out ?_)
    | (go_at_call 61; (refine (HM.out _).mono ?_); rintro o w1 ⟨rfl, hb⟩; replace F := Go.Lib.hid (row_next hb F.out); replace P := Go.Lib.hid (row_next hb P.out); replace R := Go.Lib.hid (row_next hb R.out); replace Z := Go.Lib.hid (row_next hb Z.out); replace hB := Go.Lib.hid (below_next hB.out hb); clear hb))
  refine Code.wp_mono (Q := fun e a' W' => e = .normal ∧ a'.tmps.getD 3 undef = .pointer (some ⟨w.heap.size, 0, none⟩) ∧ a'.defers = [] ∧ Below w.heap.size w W' ∧ W'.heap[w.heap.size]? = some (.cells (vrow 2 (spAt x (2 * ax - 1 - y))) 36)) ?_ ?_
  rotate_left
  · refine wp_region_held_drew (S := fun W' => Below w.heap.size w W' ∧ W'.heap[b1]? = some (.cells (vrow 3 (foAt ax true p)) 41) ∧ W'.heap[b3]? = some (.cells (vrow 2 (spAt x y)) 36)) (by kernel_rfl) ⟨hB.out.drew, F.out, R.out⟩ (fun hH => ?_)
    have V2 := drwT Z.out
    clear hB F R P Z
    generalize World.drew _ = W at hH V2 ⊢
    refine wpAnyH_take (i := 0) (v := (.agg (vrow 3 (foAt ax true p)))) rfl (by kernel_rfl) (by kernel_rfl) (by kernel_rfl) (fun _ _ _ h => by cases h.1) (yields_row (by rfl) 41 _ rfl b1 rfl 3 (foAt ax true p) 41 _ Tryd.underlying41 rfl size_fold (fun _ h => h.2.1)) hH ?_
    (try simp only [Act.put, List.setIfInBounds_toArray, List.set_cons_succ, List.set_cons_zero])
    refine wpAnyH_take (i := 2) (v := (.agg (vrow 2 (spAt x y)))) rfl (by kernel_rfl) (by kernel_rfl) (by kernel_rfl) (fun _ _ _ h => by cases h.1) (yields_row (by rfl) 36 _ rfl b3 rfl 2 (spAt x y) 36 _ Tryd.underlying36 rfl size_spot (fun _ h => h.2.2)) hH ?_
    (try simp only [Act.put, List.setIfInBounds_toArray, List.set_cons_succ, List.set_cons_zero])
    refine wpAnyH_ready (rs := [1]) (by kernel_rfl) (by simp) (AllReadyH.cons rfl (fun K hK => ?_) AllReadyH.nil)
    rw [if_pos (by rfl)]
    go_simp
    go_at_call 62
    refine (HT _).mono ?_
    rintro o X ⟨rfl, hC, hb⟩
    replace hH : Below w.heap.size w X ∧ X.heap[b1]? = some (.cells (vrow 3 (foAt ax true p)) 41) ∧ X.heap[b3]? = some (.cells (vrow 2 (spAt x y)) 36) := ⟨hH.1.trans (hb.mono hH.1.size), row_next hb hH.2.1, row_next hb hH.2.2⟩
    replace V2 := row_next hb V2
    clear hb
    refine hK.out _ _ hH (fun hH => ?_)
    clear hK K
    (try simp only [Act.put, List.setIfInBounds_toArray, List.set_cons_succ, List.set_cons_zero])
    refine wpAnyH_ready (rs := [3]) (by kernel_rfl) (by simp) (AllReadyH.cons rfl (fun K hK => ?_) AllReadyH.nil)
    rw [if_pos (by rfl)]
    go_simp
    go_at_call 109
    refine (turn1_any x y (2 * ax - 1) _ _ hC hw1).mono ?_
    rintro o Y ⟨rfl, hb⟩
    replace hH : Below w.heap.size w Y ∧ Y.heap[b1]? = some (.cells (vrow 3 (foAt ax true p)) 41) ∧ Y.heap[b3]? = some (.cells (vrow 2 (spAt x y)) 36) := ⟨hH.1.trans (hb.mono hH.1.size), row_next hb hH.2.1, row_next hb hH.2.2⟩
    replace V2 := row_next hb V2
    clear hb hC
    refine hK.out _ _ hH (fun hH => ?_)
    clear hK K
    (try simp only [Act.put, List.setIfInBounds_toArray, List.set_cons_succ, List.set_cons_zero])
    refine wpAnyH_ready (rs := [4]) (by kernel_rfl) (by simp) (AllReadyH.cons rfl (fun K hK => ?_) AllReadyH.nil)
    rw [if_pos (by rfl)]
    unfold Oper.wp
    rw [run_storemid 36 (.tmp 3) (.tmp 10) rfl w.heap.size 0 rfl 2 2 (spAt 0 0) (spAt x (2 * ax - 1 - y)) rfl 36 size_spot V2 (by omega) (fun i _ => spAt_one _ _ i), vrow_over_all, Oper.upon_skip]
    replace V2 := row_set V2 (vrow 2 (spAt x (2 * ax - 1 - y)))
    have n1 := row_lt h1
    have n3 := row_lt h3
    have hH2 : Below w.heap.size w (Y.setRow w.heap.size (vrow 2 (spAt x (2 * ax - 1 - y)))) ∧ (Y.setRow w.heap.size (vrow 2 (spAt x (2 * ax - 1 - y)))).heap[b1]? = some (.cells (vrow 3 (foAt ax true p)) 41) ∧ (Y.setRow w.heap.size (vrow 2 (spAt x (2 * ax - 1 - y)))).heap[b3]? = some (.cells (vrow 2 (spAt x y)) 36) := ⟨Below_setRow hH.1 (Nat.le_refl _) _, row_set' (g := w.heap.size) (by omega) hH.2.1 _, row_set' (g := w.heap.size) (by omega) hH.2.2 _⟩
    refine hK.out _ _ hH2 (fun hH => ?_)
    clear hK K hH2
    (try simp only [Act.put, List.setIfInBounds_toArray, List.set_cons_succ, List.set_cons_zero])
    refine wpAnyH_done (by kernel_rfl) ?_ _
    exact ⟨rfl, rfl, rfl, hH.1, V2⟩
  rintro e1 a1 W1 ⟨rfl, h_4, hdf, hB1, V2⟩
  go_wp2
  exact ret_row Tryd.results60 w.heap.size 2 (spAt x (2 * ax - 1 - y)) 36 _ Tryd.underlying36 rfl size_spot h_4 hdf V2 ⟨rfl, hB1⟩
set_option maxHeartbeats 4000000 in
theorem pc_false (s : Sh) (ax : Int) (p : Int) (x y : Int) (b1 b2 b3 : Nat) (w : World) (h1 : w.heap[b1]? = some (.cells (vrow 3 (foAt ax false p)) 41)) (h2 : w.heap[b2]? = some (.cells (vrow 266 s.at) 39)) (h3 : w.heap[b3]? = some (.cells (vrow 2 (spAt x y)) 36)) (hv : (okI s && foldOk s ax false p) = true) (hax : 1 ≤ ax ∧ ax ≤ 8) (hx : 0 ≤ x ∧ x ≤ 8) (hy : 0 ≤ y ∧ y ≤ 8) (hf : s.fit := by assumption) : Calls Tryd.prog 60 #[.pointer (some ⟨b1, 0, none⟩), .pointer (some ⟨b2, 0, none⟩), .pointer (some ⟨b3, 0, none⟩)] w fun e w' => e = .returned (.agg (vrow 2 (spAt (2 * ax - 1 - x) y))) ∧ Below w.heap.size w w' := by
  have HM := Go.Lib.hid fun w => must_ok s ax false p w hv
  have HT : ∀ w, Calls Tryd.prog 62 #[.agg (vrow 3 (foAt ax false p))] w fun e w' => e = .returned (.func (.func 110) #[] #[.pointer (some ⟨w.heap.size + 1, 0, none⟩)]) ∧ w'.heap[w.heap.size + 1]? = some (.cells (vrow 1 fun _ => .int .i8 (2 * ax - 1)) 22) ∧ Below w.heap.size w w' := fun w => turn_any ax false p w hax
  have hw1 : -128 ≤ 2 * ax - 1 - x ∧ 2 * ax - 1 - x ≤ 127 := by omega
  have zz := zero_spot
  have hB : Hid (Below w.heap.size w (w.alloc (.cells (vrow 2 (spAt 0 0)) 36))) := Go.Lib.hid ((Below.refl w.heap.size w).alloc (Nat.le_refl _) _)
  have F := Go.Lib.hid (heap_past w (.cells (vrow 2 (spAt 0 0)) 36) _ _ (row_lt h1) h1)
  have P := Go.Lib.hid (heap_past w (.cells (vrow 2 (spAt 0 0)) 36) _ _ (row_lt h2) h2)
  have R := Go.Lib.hid (heap_past w (.cells (vrow 2 (spAt 0 0)) 36) _ _ (row_lt h3) h3)
  have Z := Go.Lib.hid (heap_at w (.cells (vrow 2 (spAt 0 0)) 36) _ rfl)
  go_enter Tryd.func60, Tryd.ntmps60
  go_wp2_with (first
    | go_skip
    | ((with_reducible refine wlAt 4 rfl ?_); refine wpList_loadall rfl 41 (.tmp 0) rfl b1 rfl 3 (foAt ax false p) 41 _ Tryd.underlying41 rfl size_fold F.out ?_)
    | ((with_reducible refine wlAt 5 rfl ?_); refine wpList_loadall rfl 39 (.tmp 1) rfl b2 rfl 266 s.at 39 _ Tryd.underlying39 rfl size_sheet P.out ?_)
    | (go_at_call 61; (refine (HM.out _).mono ?_); rintro o w1 ⟨rfl, hb⟩; replace F := Go.Lib.hid (row_next hb F.out); replace P := Go.Lib.hid (row_next hb P.out); replace R := Go.Lib.hid (row_next hb R.out); replace Z := Go.Lib.hid (row_next hb Z.out); replace hB := Go.Lib.hid (below_next hB.out hb); clear hb))
  refine Code.wp_mono (Q := fun e a' W' => e = .normal ∧ a'.tmps.getD 3 undef = .pointer (some ⟨w.heap.size, 0, none⟩) ∧ a'.defers = [] ∧ Below w.heap.size w W' ∧ W'.heap[w.heap.size]? = some (.cells (vrow 2 (spAt (2 * ax - 1 - x) y)) 36)) ?_ ?_
  rotate_left
  · refine wp_region_held_drew (S := fun W' => Below w.heap.size w W' ∧ W'.heap[b1]? = some (.cells (vrow 3 (foAt ax false p)) 41) ∧ W'.heap[b3]? = some (.cells (vrow 2 (spAt x y)) 36)) (by kernel_rfl) ⟨hB.out.drew, F.out, R.out⟩ (fun hH => ?_)
    have V2 := drwT Z.out
    clear hB F R P Z
    generalize World.drew _ = W at hH V2 ⊢
    refine wpAnyH_take (i := 0) (v := (.agg (vrow 3 (foAt ax false p)))) rfl (by kernel_rfl) (by kernel_rfl) (by kernel_rfl) (fun _ _ _ h => by cases h.1) (yields_row (by rfl) 41 _ rfl b1 rfl 3 (foAt ax false p) 41 _ Tryd.underlying41 rfl size_fold (fun _ h => h.2.1)) hH ?_
    (try simp only [Act.put, List.setIfInBounds_toArray, List.set_cons_succ, List.set_cons_zero])
    refine wpAnyH_take (i := 2) (v := (.agg (vrow 2 (spAt x y)))) rfl (by kernel_rfl) (by kernel_rfl) (by kernel_rfl) (fun _ _ _ h => by cases h.1) (yields_row (by rfl) 36 _ rfl b3 rfl 2 (spAt x y) 36 _ Tryd.underlying36 rfl size_spot (fun _ h => h.2.2)) hH ?_
    (try simp only [Act.put, List.setIfInBounds_toArray, List.set_cons_succ, List.set_cons_zero])
    refine wpAnyH_ready (rs := [1]) (by kernel_rfl) (by simp) (AllReadyH.cons rfl (fun K hK => ?_) AllReadyH.nil)
    rw [if_pos (by rfl)]
    go_simp
    go_at_call 62
    refine (HT _).mono ?_
    rintro o X ⟨rfl, hC, hb⟩
    replace hH : Below w.heap.size w X ∧ X.heap[b1]? = some (.cells (vrow 3 (foAt ax false p)) 41) ∧ X.heap[b3]? = some (.cells (vrow 2 (spAt x y)) 36) := ⟨hH.1.trans (hb.mono hH.1.size), row_next hb hH.2.1, row_next hb hH.2.2⟩
    replace V2 := row_next hb V2
    clear hb
    refine hK.out _ _ hH (fun hH => ?_)
    clear hK K
    (try simp only [Act.put, List.setIfInBounds_toArray, List.set_cons_succ, List.set_cons_zero])
    refine wpAnyH_ready (rs := [3]) (by kernel_rfl) (by simp) (AllReadyH.cons rfl (fun K hK => ?_) AllReadyH.nil)
    rw [if_pos (by rfl)]
    go_simp
    go_at_call 110
    refine (turn2_any x y (2 * ax - 1) _ _ hC hw1).mono ?_
    rintro o Y ⟨rfl, hb⟩
    replace hH : Below w.heap.size w Y ∧ Y.heap[b1]? = some (.cells (vrow 3 (foAt ax false p)) 41) ∧ Y.heap[b3]? = some (.cells (vrow 2 (spAt x y)) 36) := ⟨hH.1.trans (hb.mono hH.1.size), row_next hb hH.2.1, row_next hb hH.2.2⟩
    replace V2 := row_next hb V2
    clear hb hC
    refine hK.out _ _ hH (fun hH => ?_)
    clear hK K
    (try simp only [Act.put, List.setIfInBounds_toArray, List.set_cons_succ, List.set_cons_zero])
    refine wpAnyH_ready (rs := [4]) (by kernel_rfl) (by simp) (AllReadyH.cons rfl (fun K hK => ?_) AllReadyH.nil)
    rw [if_pos (by rfl)]
    unfold Oper.wp
    rw [run_storemid 36 (.tmp 3) (.tmp 10) rfl w.heap.size 0 rfl 2 2 (spAt 0 0) (spAt (2 * ax - 1 - x) y) rfl 36 size_spot V2 (by omega) (fun i _ => spAt_one _ _ i), vrow_over_all, Oper.upon_skip]
    replace V2 := row_set V2 (vrow 2 (spAt (2 * ax - 1 - x) y))
    have n1 := row_lt h1
    have n3 := row_lt h3
    have hH2 : Below w.heap.size w (Y.setRow w.heap.size (vrow 2 (spAt (2 * ax - 1 - x) y))) ∧ (Y.setRow w.heap.size (vrow 2 (spAt (2 * ax - 1 - x) y))).heap[b1]? = some (.cells (vrow 3 (foAt ax false p)) 41) ∧ (Y.setRow w.heap.size (vrow 2 (spAt (2 * ax - 1 - x) y))).heap[b3]? = some (.cells (vrow 2 (spAt x y)) 36) := ⟨Below_setRow hH.1 (Nat.le_refl _) _, row_set' (g := w.heap.size) (by omega) hH.2.1 _, row_set' (g := w.heap.size) (by omega) hH.2.2 _⟩
    refine hK.out _ _ hH2 (fun hH => ?_)
    clear hK K hH2
    (try simp only [Act.put, List.setIfInBounds_toArray, List.set_cons_succ, List.set_cons_zero])
    refine wpAnyH_done (by kernel_rfl) ?_ _
    exact ⟨rfl, rfl, rfl, hH.1, V2⟩
  rintro e1 a1 W1 ⟨rfl, h_4, hdf, hB1, V2⟩
  go_wp2
  exact ret_row Tryd.results60 w.heap.size 2 (spAt (2 * ax - 1 - x) y) 36 _ Tryd.underlying36 rfl size_spot h_4 hdf V2 ⟨rfl, hB1⟩
theorem pc_any (s : Sh) (ax : Int) (d : Bool) (p : Int) (x y : Int) (b1 b2 b3 : Nat) (w : World) (h1 : w.heap[b1]? = some (.cells (vrow 3 (foAt ax d p)) 41)) (h2 : w.heap[b2]? = some (.cells (vrow 266 s.at) 39)) (h3 : w.heap[b3]? = some (.cells (vrow 2 (spAt x y)) 36)) (hv : (okI s && foldOk s ax d p) = true) (hax : 1 ≤ ax ∧ ax ≤ 8) (hx : 0 ≤ x ∧ x ≤ 8) (hy : 0 ≤ y ∧ y ≤ 8) (hf : s.fit := by assumption) : Calls Tryd.prog 60 #[.pointer (some ⟨b1, 0, none⟩), .pointer (some ⟨b2, 0, none⟩), .pointer (some ⟨b3, 0, none⟩)] w fun e w' => e = .returned (.agg (vrow 2 (spAt (prX ax d x) (prY ax d y)))) ∧ Below w.heap.size w w' := by
  cases d
  · exact pc_false s ax p x y b1 b2 b3 w h1 h2 h3 hv hax hx hy
  · exact pc_true s ax p x y b1 b2 b3 w h1 h2 h3 hv hax hx hy
end Go.Proofs.YthbhckalkkameaaDoor
