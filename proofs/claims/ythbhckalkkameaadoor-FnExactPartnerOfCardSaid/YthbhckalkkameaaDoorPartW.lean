import Derived.Deep.RegionHeld3
import Derived.Test.YthbhckalkkameaaDoorPartI
import Derived.Test.YthbhckalkkameaaDoorEqSheet
import Derived.Test.YthbhckalkkameaaDoorG1
namespace Go.Proofs.YthbhckalkkameaaDoor
open Go.RowKit
set_option maxRecDepth 100000
set_option linter.unusedVariables false
set_option linter.unusedSimpArgs false
theorem toSpT_any (x y : Int) (w : World) : Calls Tryd.prog 18 #[.agg #[.int .i8 x, .int .i8 y]] w fun e w' => e = .returned (.agg #[.int .i8 x, .int .i8 y]) ∧ Below w.heap.size w w' := by
  go_enter Tryd.func18, Tryd.ntmps18
  go_wp2
  refine ret_row Tryd.results18 _ 2 (spAt x y) 36 _ Tryd.underlying36 rfl size_spot rfl rfl (heap_past _ _ _ _ (by simp) (heap_at _ _ _ (by simp))) ?_
  exact ⟨rfl, (((Below.refl _ _).alloc (Nat.le_refl _) _).alloc (by simp) _).alloc (by simp; omega) _⟩
set_option maxHeartbeats 400000 in
theorem eqSpT_any (p q : Int) (w : World) : Calls Tryd.prog 20 #[.agg (vrow 2 (spAt p q)), .agg (vrow 2 (spAt p q))] w fun e w' => e = .returned (.bool true) ∧ Below w.heap.size w w' := by
  have hB : Hid (Below w.heap.size w ((w.alloc (.cells (vrow 2 (spAt p q)) 36)).alloc (.cells (vrow 2 (spAt p q)) 36))) := (((Below.refl w.heap.size w).alloc (by simp <;> omega) _).alloc (by simp <;> omega) _)
  have A : Hid (((w.alloc (.cells (vrow 2 (spAt p q)) 36)).alloc (.cells (vrow 2 (spAt p q)) 36)).heap[(w.heap.size)]? = some (.cells (vrow 2 (spAt p q)) 36)) := heap_past _ _ _ _ (by first | omega | (simp <;> omega)) (heap_at _ _ _ (by simp))
  have R : Hid (((w.alloc (.cells (vrow 2 (spAt p q)) 36)).alloc (.cells (vrow 2 (spAt p q)) 36)).heap[(w.heap.size + 1)]? = some (.cells (vrow 2 (spAt p q)) 36)) := heap_at _ _ _ (by simp)
  go_enter Tryd.func20, Tryd.ntmps20
  go_wp2_with (first
    | (refine list_at 6 rfl ?_; intro W hW; rw [hW] at hB A R; clear hW; have A' := Go.Lib.hid (cls_row' A.out); have R' := Go.Lib.hid (cls_row' R.out); (repeat (first | go_big_quiet_skip | (refine wpQuiet_load1 22 _ rfl (by first | exact want_n rfl | exact want_g _ _ _ rfl rfl rfl) (w.heap.size) _ rfl 2 (spAt p q) _ rw_i8 A'.out (by omega) ?_; (first | rw [spAt_0] | rw [spAt_1]); simp only [Act.put, List.setIfInBounds_toArray, List.set_cons_succ, List.set_cons_zero]) | (refine wpQuiet_load1 22 _ rfl (by first | exact want_n rfl | exact want_g _ _ _ rfl rfl rfl) (w.heap.size + 1) _ rfl 2 (spAt p q) _ rw_i8 R'.out (by omega) ?_; (first | rw [spAt_0] | rw [spAt_1]); simp only [Act.put, List.setIfInBounds_toArray, List.set_cons_succ, List.set_cons_zero]) | go_big_quiet_step (fail))); refine wpQuiet_nil ?_; intro Wn hb; replace A := Go.Lib.hid (row_next hb A.out); replace R := Go.Lib.hid (row_next hb R.out); replace hB := Go.Lib.hid (below_next hB.out hb); clear hb A' R')
    | (refine list_at 11 rfl ?_; intro W hW; rw [hW] at hB A R; clear hW; have A' := Go.Lib.hid (cls_row' A.out); have R' := Go.Lib.hid (cls_row' R.out); (repeat (first | go_big_quiet_skip | (refine wpQuiet_load1 22 _ rfl (by first | exact want_n rfl | exact want_g _ _ _ rfl rfl rfl) (w.heap.size) _ rfl 2 (spAt p q) _ rw_i8 A'.out (by omega) ?_; (first | rw [spAt_0] | rw [spAt_1]); simp only [Act.put, List.setIfInBounds_toArray, List.set_cons_succ, List.set_cons_zero]) | (refine wpQuiet_load1 22 _ rfl (by first | exact want_n rfl | exact want_g _ _ _ rfl rfl rfl) (w.heap.size + 1) _ rfl 2 (spAt p q) _ rw_i8 R'.out (by omega) ?_; (first | rw [spAt_0] | rw [spAt_1]); simp only [Act.put, List.setIfInBounds_toArray, List.set_cons_succ, List.set_cons_zero]) | go_big_quiet_step (fail))); refine wpQuiet_nil ?_; intro Wn hb; replace A := Go.Lib.hid (row_next hb A.out); replace R := Go.Lib.hid (row_next hb R.out); replace hB := Go.Lib.hid (below_next hB.out hb); clear hb A' R'))
  go_ret
  exact ⟨rfl, hB.out⟩
theorem size_lspot : (Tryd.prog.info? 35).map (·.size) = some 2 := by kernel_rfl
theorem toSpot_any (x y : Int) (w : World) : Calls Tryd.prog 18 #[.agg (vrow 2 (spAt x y))] w fun e w' => e = .returned (.agg (vrow 2 (spAt x y))) ∧ Below w.heap.size w w' := toSpT_any x y w
theorem eqSpot_any (p q : Int) (w : World) : Calls Tryd.prog 20 #[.agg (vrow 2 (spAt p q)), .agg (vrow 2 (spAt p q))] w fun e w' => e = .returned (.bool true) ∧ Below w.heap.size w w' := eqSpT_any p q w
theorem toFoV_any (ax : Int) (d : Bool) (p : Int) (w : World) : Calls Tryd.prog 17 #[.agg (vrow 3 (foAt ax d p))] w fun e w' => e = .returned (.agg (vrow 3 (foAt ax d p))) ∧ Below w.heap.size w w' := toFold_any ax d p w
set_option maxHeartbeats 8000000 in
theorem part_walk (s : Sh) (ax : Int) (d : Bool) (p : Int) (x y : Int) (q1 q2 : Int) (c : Int) (e : ErrE) (w : World) (hE : Errs e w)
    (hS : ∀ w, Calls Tryd.prog 15 #[.agg (vrow 266 s.at), .agg (vrow 3 (foAt ax d p)), .agg (vrow 2 (spAt x y))] w fun e w' => e = .returned (.tuple #[.agg (vrow 2 (spAt q1 q2)), .int .i64 c]) ∧ Below w.heap.size w w')
    (hI : ∀ w, Errs e w → Calls Tryd.prog 19 #[.agg (vrow 266 s.at), .agg (vrow 3 (foAt ax d p)), .agg (vrow 2 (spAt x y))] w fun e w' => e = .returned (.tuple #[.agg (vrow 2 (spAt q1 q2)), .int .i64 c]) ∧ Below w.heap.size w w') : Calls Tryd.prog 3 #[.agg (vrow 266 s.at), .agg (vrow 3 (foAt ax d p)), .agg (vrow 2 (spAt x y))] w fun o w' => o = .returned (.bool true) ∧ Below w.heap.size w w' := by
  have zz_sheet := zero_sheet
  have zz_spot := zero_spot
  have HT0 := Go.Lib.hid (fun w => toSheet_any s w)
  have HT1 := Go.Lib.hid (fun w => toFoV_any ax d p w)
  have HT2 := Go.Lib.hid (fun w => toSpot_any x y w)
  have HS := Go.Lib.hid hS; have HI := Go.Lib.hid hI
  clear hS hI
  have hB : Hid (Below w.heap.size w (((w.alloc (.cells (vrow 266 s.at) 31)).alloc (.cells (vrow 3 (foAt ax d p)) 33)).alloc (.cells (vrow 2 (spAt x y)) 35))) := ((((Below.refl w.heap.size w).alloc (by simp <;> omega) _).alloc (by simp <;> omega) _).alloc (by simp <;> omega) _)
  have P0 : Hid ((((w.alloc (.cells (vrow 266 s.at) 31)).alloc (.cells (vrow 3 (foAt ax d p)) 33)).alloc (.cells (vrow 2 (spAt x y)) 35)).heap[w.heap.size]? = some (.cells (vrow 266 s.at) 31)) := heap_past _ _ _ _ (by first | omega | (simp <;> omega)) (heap_past _ _ _ _ (by first | omega | (simp <;> omega)) (heap_at _ _ _ (by simp)))
  have P1 : Hid ((((w.alloc (.cells (vrow 266 s.at) 31)).alloc (.cells (vrow 3 (foAt ax d p)) 33)).alloc (.cells (vrow 2 (spAt x y)) 35)).heap[w.heap.size + 1]? = some (.cells (vrow 3 (foAt ax d p)) 33)) := heap_past _ _ _ _ (by first | omega | (simp <;> omega)) (heap_at _ _ _ (by simp))
  have P2 : Hid ((((w.alloc (.cells (vrow 266 s.at) 31)).alloc (.cells (vrow 3 (foAt ax d p)) 33)).alloc (.cells (vrow 2 (spAt x y)) 35)).heap[w.heap.size + 2]? = some (.cells (vrow 2 (spAt x y)) 35)) := heap_at _ _ _ (by simp)
  go_enter Tryd.func3, Tryd.ntmps3
  go_wp2
  refine Code.wp_mono (Q := fun e a' W' => e = .normal ∧ ∃ b0, a' = { tmps := #[.agg (vrow 266 s.at), .agg (vrow 3 (foAt ax d p)), .agg (vrow 2 (spAt x y)), .pointer (some ⟨w.heap.size, 0, none⟩), .pointer (some ⟨w.heap.size + 1, 0, none⟩), .pointer (some ⟨w.heap.size + 2, 0, none⟩), .bool false, .pointer (some ⟨b0, 0, none⟩), .int .i64 c, undef, undef, .tuple #[.agg (vrow 2 (spAt q1 q2)), .int .i64 c], .agg (vrow 266 s.at), .agg (vrow 266 s.at), .agg (vrow 3 (foAt ax d p)), .agg (vrow 3 (foAt ax d p)), .agg (vrow 2 (spAt x y)), .agg (vrow 2 (spAt x y)), .tuple #[.agg (vrow 2 (spAt q1 q2)), .int .i64 c], .agg (vrow 2 (spAt q1 q2)), .int .i64 c, undef, undef, undef, undef, undef, undef, undef, undef, undef, undef, undef, undef, undef, undef, undef, undef, undef, undef, undef], defers := [] } ∧ (Below w.heap.size w W' ∧ W'.heap[w.heap.size]? = some (.cells (vrow 266 s.at) 31) ∧ W'.heap[w.heap.size + 1]? = some (.cells (vrow 3 (foAt ax d p)) 33) ∧ W'.heap[w.heap.size + 2]? = some (.cells (vrow 2 (spAt x y)) 35)) ∧ W'.heap[b0]? = some (.cells (vrow 2 (spAt q1 q2)) 36)) ?_ ?_
  rotate_left
  · refine region_gen (fun O hO => ?_)
    obtain ⟨SS, hSS⟩ : ∃ zS : World → Prop, zS = (fun W' => Below w.heap.size w W' ∧ W'.heap[w.heap.size]? = some (.cells (vrow 266 s.at) 31) ∧ W'.heap[w.heap.size + 1]? = some (.cells (vrow 3 (foAt ax d p)) 33) ∧ W'.heap[w.heap.size + 2]? = some (.cells (vrow 2 (spAt x y)) 35)) := ⟨_, rfl⟩
    obtain ⟨QQ, hQQ⟩ : ∃ zQ : Exit → Act → World → Prop, zQ = (fun e a' W' => e = .normal ∧ ∃ b0, a' = { tmps := #[.agg (vrow 266 s.at), .agg (vrow 3 (foAt ax d p)), .agg (vrow 2 (spAt x y)), .pointer (some ⟨w.heap.size, 0, none⟩), .pointer (some ⟨w.heap.size + 1, 0, none⟩), .pointer (some ⟨w.heap.size + 2, 0, none⟩), .bool false, .pointer (some ⟨b0, 0, none⟩), .int .i64 c, undef, undef, .tuple #[.agg (vrow 2 (spAt q1 q2)), .int .i64 c], .agg (vrow 266 s.at), .agg (vrow 266 s.at), .agg (vrow 3 (foAt ax d p)), .agg (vrow 3 (foAt ax d p)), .agg (vrow 2 (spAt x y)), .agg (vrow 2 (spAt x y)), .tuple #[.agg (vrow 2 (spAt q1 q2)), .int .i64 c], .agg (vrow 2 (spAt q1 q2)), .int .i64 c, undef, undef, undef, undef, undef, undef, undef, undef, undef, undef, undef, undef, undef, undef, undef, undef, undef, undef, undef], defers := [] } ∧ (Below w.heap.size w W' ∧ W'.heap[w.heap.size]? = some (.cells (vrow 266 s.at) 31) ∧ W'.heap[w.heap.size + 1]? = some (.cells (vrow 3 (foAt ax d p)) 33) ∧ W'.heap[w.heap.size + 2]? = some (.cells (vrow 2 (spAt x y)) 35)) ∧ W'.heap[b0]? = some (.cells (vrow 2 (spAt q1 q2)) 36)) := ⟨_, rfl⟩
    rw [← hQQ]
    have N4_1 : ∀ (W : World) (b0 : Nat), (Below w.heap.size w W ∧ W.heap[w.heap.size]? = some (.cells (vrow 266 s.at) 31) ∧ W.heap[w.heap.size + 1]? = some (.cells (vrow 3 (foAt ax d p)) 33) ∧ W.heap[w.heap.size + 2]? = some (.cells (vrow 2 (spAt x y)) 35)) → W.heap[b0]? = some (.cells (vrow 2 (spAt 0 0)) 36) → w.heap.size < b0 → w.heap.size + 1 < b0 → w.heap.size + 2 < b0 → wpAnyH Tryd.prog .any O QQ SS 2 #[true, true, true, true, true, true, true, true, true, true, true, false, false] { tmps := #[.agg (vrow 266 s.at), .agg (vrow 3 (foAt ax d p)), .agg (vrow 2 (spAt x y)), .pointer (some ⟨w.heap.size, 0, none⟩), .pointer (some ⟨w.heap.size + 1, 0, none⟩), .pointer (some ⟨w.heap.size + 2, 0, none⟩), .bool false, .pointer (some ⟨b0, 0, none⟩), undef, undef, undef, .tuple #[.agg (vrow 2 (spAt q1 q2)), .int .i64 c], .agg (vrow 266 s.at), .agg (vrow 266 s.at), .agg (vrow 3 (foAt ax d p)), .agg (vrow 3 (foAt ax d p)), .agg (vrow 2 (spAt x y)), .agg (vrow 2 (spAt x y)), .tuple #[.agg (vrow 2 (spAt q1 q2)), .int .i64 c], .agg (vrow 2 (spAt q1 q2)), .int .i64 c, undef, undef, undef, undef, undef, undef, undef, undef, undef, undef, undef, undef, undef, undef, undef, undef, undef, undef, undef], defers := [] } W := by
      intro W b0 hH V0 n0_0 n0_1 n0_2
      subst hO hSS hQQ
      refine wpAnyH_ready (rs := [11]) (by kernel_rfl) (by simp) (AllReadyH.cons rfl (fun K hK => ?_) AllReadyH.nil)
      rw [if_pos (by rfl)]
      unfold Oper.wp
      rw [run_storemid 36 (.tmp 7) (.tmp 19) rfl b0 0 rfl 2 2 (spAt 0 0) (spAt q1 q2) rfl 36 size_spot V0 (by omega) (fun i _ => spAt_one _ _ i), vrow_over_all, Oper.upon_skip]
      replace V0 := row_set V0 (vrow 2 (spAt q1 q2))
      have hH2 : Below w.heap.size w (W.setRow b0 (vrow 2 (spAt q1 q2))) ∧ (W.setRow b0 (vrow 2 (spAt q1 q2))).heap[w.heap.size]? = some (.cells (vrow 266 s.at) 31) ∧ (W.setRow b0 (vrow 2 (spAt q1 q2))).heap[w.heap.size + 1]? = some (.cells (vrow 3 (foAt ax d p)) 33) ∧ (W.setRow b0 (vrow 2 (spAt q1 q2))).heap[w.heap.size + 2]? = some (.cells (vrow 2 (spAt x y)) 35) := ⟨Below_setRow hH.1 (by omega) _, row_set' (by omega) hH.2.1 _, row_set' (by omega) hH.2.2.1 _, row_set' (by omega) hH.2.2.2 _⟩
      refine hK.out _ _ hH2 (fun hH => ?_)
      clear hK K hH2
      (try simp only [Act.put, List.setIfInBounds_toArray, List.set_cons_succ, List.set_cons_zero])
      generalize (W.setRow b0 (vrow 2 (spAt q1 q2))) = Y0 at hH V0 ⊢
      refine wpAnyH_take (i := 12) (v := (.int .i64 c)) rfl (by kernel_rfl) (by kernel_rfl) (by kernel_rfl) (fun _ _ _ h => by cases h.1) (.inl ⟨by rfl, fun w _ => by go_simp⟩) hH ?_
      (try simp only [Act.put, List.setIfInBounds_toArray, List.set_cons_succ, List.set_cons_zero])
      refine wpAnyH_done (by kernel_rfl) ?_ _
      exact ⟨rfl, b0, rfl, hH, V0⟩
    have N4_0 : ∀ (W : World), (Below w.heap.size w W ∧ W.heap[w.heap.size]? = some (.cells (vrow 266 s.at) 31) ∧ W.heap[w.heap.size + 1]? = some (.cells (vrow 3 (foAt ax d p)) 33) ∧ W.heap[w.heap.size + 2]? = some (.cells (vrow 2 (spAt x y)) 35)) → wpAnyH Tryd.prog .any O QQ SS 3 #[true, true, true, true, true, true, true, true, true, true, false, false, false] { tmps := #[.agg (vrow 266 s.at), .agg (vrow 3 (foAt ax d p)), .agg (vrow 2 (spAt x y)), .pointer (some ⟨w.heap.size, 0, none⟩), .pointer (some ⟨w.heap.size + 1, 0, none⟩), .pointer (some ⟨w.heap.size + 2, 0, none⟩), .bool false, undef, undef, undef, undef, .tuple #[.agg (vrow 2 (spAt q1 q2)), .int .i64 c], .agg (vrow 266 s.at), .agg (vrow 266 s.at), .agg (vrow 3 (foAt ax d p)), .agg (vrow 3 (foAt ax d p)), .agg (vrow 2 (spAt x y)), .agg (vrow 2 (spAt x y)), .tuple #[.agg (vrow 2 (spAt q1 q2)), .int .i64 c], .agg (vrow 2 (spAt q1 q2)), .int .i64 c, undef, undef, undef, undef, undef, undef, undef, undef, undef, undef, undef, undef, undef, undef, undef, undef, undef, undef, undef], defers := [] } W := by
      intro W hH
      subst hO hSS hQQ
      refine wpAnyH_ready (rs := [10]) (by kernel_rfl) (by simp) (AllReadyH.cons rfl (fun K hK => ?_) AllReadyH.nil)
      · rw [if_pos (by rfl)]
        go_simp
        try simp only [sp_vrow]
        have V := heap_at W (.cells (vrow 2 (spAt 0 0)) 36) _ rfl
        have m0 := row_lt hH.2.1
        have m1 := row_lt hH.2.2.1
        have m2 := row_lt hH.2.2.2
        replace hH : Below w.heap.size w (W.alloc (.cells (vrow 2 (spAt 0 0)) 36)) ∧ (W.alloc (.cells (vrow 2 (spAt 0 0)) 36)).heap[w.heap.size]? = some (.cells (vrow 266 s.at) 31) ∧ (W.alloc (.cells (vrow 2 (spAt 0 0)) 36)).heap[w.heap.size + 1]? = some (.cells (vrow 3 (foAt ax d p)) 33) ∧ (W.alloc (.cells (vrow 2 (spAt 0 0)) 36)).heap[w.heap.size + 2]? = some (.cells (vrow 2 (spAt x y)) 35) := ⟨hH.1.alloc hH.1.size _, heap_past _ _ _ _ m0 hH.2.1, heap_past _ _ _ _ m1 hH.2.2.1, heap_past _ _ _ _ m2 hH.2.2.2⟩
        refine hK.out _ _ hH (fun hH => ?_)
        clear hK K
        (try simp only [Act.put, List.setIfInBounds_toArray, List.set_cons_succ, List.set_cons_zero])
        refine wpAnyH_at 2 #[true, true, true, true, true, true, true, true, true, true, true, false, false] (by kernel_rfl) (by kernel_rfl) ?_
        exact N4_1 (W.alloc (.cells (vrow 2 (spAt 0 0)) 36)) W.heap.size hH V m0 m1 m2
    have N3_1 : ∀ (W : World) (b0 : Nat), (Below w.heap.size w W ∧ W.heap[w.heap.size]? = some (.cells (vrow 266 s.at) 31) ∧ W.heap[w.heap.size + 1]? = some (.cells (vrow 3 (foAt ax d p)) 33) ∧ W.heap[w.heap.size + 2]? = some (.cells (vrow 2 (spAt x y)) 35)) → W.heap[b0]? = some (.cells (vrow 2 (spAt 0 0)) 36) → w.heap.size < b0 → w.heap.size + 1 < b0 → w.heap.size + 2 < b0 → wpAnyH Tryd.prog .any O QQ SS 6 #[true, true, true, true, true, true, false, false, false, false, true, false, false] { tmps := #[.agg (vrow 266 s.at), .agg (vrow 3 (foAt ax d p)), .agg (vrow 2 (spAt x y)), .pointer (some ⟨w.heap.size, 0, none⟩), .pointer (some ⟨w.heap.size + 1, 0, none⟩), .pointer (some ⟨w.heap.size + 2, 0, none⟩), .bool false, .pointer (some ⟨b0, 0, none⟩), undef, undef, undef, undef, .agg (vrow 266 s.at), .agg (vrow 266 s.at), .agg (vrow 3 (foAt ax d p)), .agg (vrow 3 (foAt ax d p)), .agg (vrow 2 (spAt x y)), .agg (vrow 2 (spAt x y)), undef, undef, undef, undef, undef, undef, undef, undef, undef, undef, undef, undef, undef, undef, undef, undef, undef, undef, undef, undef, undef, undef], defers := [] } W := by
      intro W b0 hH V0 n0_0 n0_1 n0_2
      subst hO hSS hQQ
      refine wpAnyH_ready (rs := [6]) (by kernel_rfl) (by simp) (AllReadyH.cons rfl (fun K hK => ?_) AllReadyH.nil)
      · rw [if_pos (by rfl)]
        go_simp
        go_at_call 15
        refine (HS.out _).mono ?_
        rintro o X ⟨rfl, hb⟩
        replace hH : Below w.heap.size w X ∧ X.heap[w.heap.size]? = some (.cells (vrow 266 s.at) 31) ∧ X.heap[w.heap.size + 1]? = some (.cells (vrow 3 (foAt ax d p)) 33) ∧ X.heap[w.heap.size + 2]? = some (.cells (vrow 2 (spAt x y)) 35) := ⟨hH.1.trans (hb.mono hH.1.size), row_next hb hH.2.1, row_next hb hH.2.2.1, row_next hb hH.2.2.2⟩
        replace V0 := row_next hb V0
        clear hb
        refine hK.out _ _ hH (fun hH => ?_)
        clear hK K
        (try simp only [Act.put, List.setIfInBounds_toArray, List.set_cons_succ, List.set_cons_zero])
        refine wpAnyH_take (i := 7) (v := (.tuple #[.agg (vrow 2 (spAt q1 q2)), .int .i64 c])) rfl (by kernel_rfl) (by kernel_rfl) (by kernel_rfl) (fun _ _ _ h => by cases h.1) (.inl ⟨by rfl, fun w _ => by go_simp⟩) hH ?_
        (try simp only [Act.put, List.setIfInBounds_toArray, List.set_cons_succ, List.set_cons_zero])
        refine wpAnyH_take (i := 8) (v := (.agg (vrow 2 (spAt q1 q2)))) rfl (by kernel_rfl) (by kernel_rfl) (by kernel_rfl) (fun _ _ _ h => by cases h.1) (.inl ⟨by rfl, fun w _ => by go_simp⟩) hH ?_
        (try simp only [Act.put, List.setIfInBounds_toArray, List.set_cons_succ, List.set_cons_zero])
        refine wpAnyH_take (i := 9) (v := (.int .i64 c)) rfl (by kernel_rfl) (by kernel_rfl) (by kernel_rfl) (fun _ _ _ h => by cases h.1) (.inl ⟨by rfl, fun w _ => by go_simp⟩) hH ?_
        (try simp only [Act.put, List.setIfInBounds_toArray, List.set_cons_succ, List.set_cons_zero])
        refine wpAnyH_at 2 #[true, true, true, true, true, true, true, true, true, true, true, false, false] (by kernel_rfl) (by kernel_rfl) ?_
        exact N4_1 X b0 hH V0 n0_0 n0_1 n0_2
    have N3_0 : ∀ (W : World), (Below w.heap.size w W ∧ W.heap[w.heap.size]? = some (.cells (vrow 266 s.at) 31) ∧ W.heap[w.heap.size + 1]? = some (.cells (vrow 3 (foAt ax d p)) 33) ∧ W.heap[w.heap.size + 2]? = some (.cells (vrow 2 (spAt x y)) 35)) → wpAnyH Tryd.prog .any O QQ SS 7 #[true, true, true, true, true, true, false, false, false, false, false, false, false] { tmps := #[.agg (vrow 266 s.at), .agg (vrow 3 (foAt ax d p)), .agg (vrow 2 (spAt x y)), .pointer (some ⟨w.heap.size, 0, none⟩), .pointer (some ⟨w.heap.size + 1, 0, none⟩), .pointer (some ⟨w.heap.size + 2, 0, none⟩), .bool false, undef, undef, undef, undef, undef, .agg (vrow 266 s.at), .agg (vrow 266 s.at), .agg (vrow 3 (foAt ax d p)), .agg (vrow 3 (foAt ax d p)), .agg (vrow 2 (spAt x y)), .agg (vrow 2 (spAt x y)), undef, undef, undef, undef, undef, undef, undef, undef, undef, undef, undef, undef, undef, undef, undef, undef, undef, undef, undef, undef, undef, undef], defers := [] } W := by
      intro W hH
      subst hO hSS hQQ
      refine wpAnyH_ready (rs := [6, 10]) (by kernel_rfl) (by simp) (AllReadyH.cons rfl (fun K hK => ?_) (AllReadyH.cons rfl (fun K hK => ?_) AllReadyH.nil))
      · rw [if_pos (by rfl)]
        go_simp
        go_at_call 15
        refine (HS.out _).mono ?_
        rintro o X ⟨rfl, hb⟩
        replace hH : Below w.heap.size w X ∧ X.heap[w.heap.size]? = some (.cells (vrow 266 s.at) 31) ∧ X.heap[w.heap.size + 1]? = some (.cells (vrow 3 (foAt ax d p)) 33) ∧ X.heap[w.heap.size + 2]? = some (.cells (vrow 2 (spAt x y)) 35) := ⟨hH.1.trans (hb.mono hH.1.size), row_next hb hH.2.1, row_next hb hH.2.2.1, row_next hb hH.2.2.2⟩
        clear hb
        refine hK.out _ _ hH (fun hH => ?_)
        clear hK K
        (try simp only [Act.put, List.setIfInBounds_toArray, List.set_cons_succ, List.set_cons_zero])
        refine wpAnyH_take (i := 7) (v := (.tuple #[.agg (vrow 2 (spAt q1 q2)), .int .i64 c])) rfl (by kernel_rfl) (by kernel_rfl) (by kernel_rfl) (fun _ _ _ h => by cases h.1) (.inl ⟨by rfl, fun w _ => by go_simp⟩) hH ?_
        (try simp only [Act.put, List.setIfInBounds_toArray, List.set_cons_succ, List.set_cons_zero])
        refine wpAnyH_take (i := 8) (v := (.agg (vrow 2 (spAt q1 q2)))) rfl (by kernel_rfl) (by kernel_rfl) (by kernel_rfl) (fun _ _ _ h => by cases h.1) (.inl ⟨by rfl, fun w _ => by go_simp⟩) hH ?_
        (try simp only [Act.put, List.setIfInBounds_toArray, List.set_cons_succ, List.set_cons_zero])
        refine wpAnyH_take (i := 9) (v := (.int .i64 c)) rfl (by kernel_rfl) (by kernel_rfl) (by kernel_rfl) (fun _ _ _ h => by cases h.1) (.inl ⟨by rfl, fun w _ => by go_simp⟩) hH ?_
        (try simp only [Act.put, List.setIfInBounds_toArray, List.set_cons_succ, List.set_cons_zero])
        refine wpAnyH_at 3 #[true, true, true, true, true, true, true, true, true, true, false, false, false] (by kernel_rfl) (by kernel_rfl) ?_
        exact N4_0 X  hH
      · rw [if_pos (by rfl)]
        go_simp
        try simp only [sp_vrow]
        have V := heap_at W (.cells (vrow 2 (spAt 0 0)) 36) _ rfl
        have m0 := row_lt hH.2.1
        have m1 := row_lt hH.2.2.1
        have m2 := row_lt hH.2.2.2
        replace hH : Below w.heap.size w (W.alloc (.cells (vrow 2 (spAt 0 0)) 36)) ∧ (W.alloc (.cells (vrow 2 (spAt 0 0)) 36)).heap[w.heap.size]? = some (.cells (vrow 266 s.at) 31) ∧ (W.alloc (.cells (vrow 2 (spAt 0 0)) 36)).heap[w.heap.size + 1]? = some (.cells (vrow 3 (foAt ax d p)) 33) ∧ (W.alloc (.cells (vrow 2 (spAt 0 0)) 36)).heap[w.heap.size + 2]? = some (.cells (vrow 2 (spAt x y)) 35) := ⟨hH.1.alloc hH.1.size _, heap_past _ _ _ _ m0 hH.2.1, heap_past _ _ _ _ m1 hH.2.2.1, heap_past _ _ _ _ m2 hH.2.2.2⟩
        refine hK.out _ _ hH (fun hH => ?_)
        clear hK K
        (try simp only [Act.put, List.setIfInBounds_toArray, List.set_cons_succ, List.set_cons_zero])
        refine wpAnyH_at 6 #[true, true, true, true, true, true, false, false, false, false, true, false, false] (by kernel_rfl) (by kernel_rfl) ?_
        exact N3_1 (W.alloc (.cells (vrow 2 (spAt 0 0)) 36)) W.heap.size hH V m0 m1 m2
    have N2_1 : ∀ (W : World) (b0 : Nat), (Below w.heap.size w W ∧ W.heap[w.heap.size]? = some (.cells (vrow 266 s.at) 31) ∧ W.heap[w.heap.size + 1]? = some (.cells (vrow 3 (foAt ax d p)) 33) ∧ W.heap[w.heap.size + 2]? = some (.cells (vrow 2 (spAt x y)) 35)) → W.heap[b0]? = some (.cells (vrow 2 (spAt 0 0)) 36) → w.heap.size < b0 → w.heap.size + 1 < b0 → w.heap.size + 2 < b0 → wpAnyH Tryd.prog .any O QQ SS 7 #[true, true, true, true, true, false, false, false, false, false, true, false, false] { tmps := #[.agg (vrow 266 s.at), .agg (vrow 3 (foAt ax d p)), .agg (vrow 2 (spAt x y)), .pointer (some ⟨w.heap.size, 0, none⟩), .pointer (some ⟨w.heap.size + 1, 0, none⟩), .pointer (some ⟨w.heap.size + 2, 0, none⟩), .bool false, .pointer (some ⟨b0, 0, none⟩), undef, undef, undef, undef, .agg (vrow 266 s.at), .agg (vrow 266 s.at), .agg (vrow 3 (foAt ax d p)), .agg (vrow 3 (foAt ax d p)), .agg (vrow 2 (spAt x y)), undef, undef, undef, undef, undef, undef, undef, undef, undef, undef, undef, undef, undef, undef, undef, undef, undef, undef, undef, undef, undef, undef, undef], defers := [] } W := by
      intro W b0 hH V0 n0_0 n0_1 n0_2
      subst hO hSS hQQ
      refine wpAnyH_ready (rs := [5]) (by kernel_rfl) (by simp) (AllReadyH.cons rfl (fun K hK => ?_) AllReadyH.nil)
      · rw [if_pos (by rfl)]
        go_simp
        go_at_call 18
        refine (HT2.out _).mono ?_
        rintro o X ⟨rfl, hb⟩
        replace hH : Below w.heap.size w X ∧ X.heap[w.heap.size]? = some (.cells (vrow 266 s.at) 31) ∧ X.heap[w.heap.size + 1]? = some (.cells (vrow 3 (foAt ax d p)) 33) ∧ X.heap[w.heap.size + 2]? = some (.cells (vrow 2 (spAt x y)) 35) := ⟨hH.1.trans (hb.mono hH.1.size), row_next hb hH.2.1, row_next hb hH.2.2.1, row_next hb hH.2.2.2⟩
        replace V0 := row_next hb V0
        clear hb
        refine hK.out _ _ hH (fun hH => ?_)
        clear hK K
        (try simp only [Act.put, List.setIfInBounds_toArray, List.set_cons_succ, List.set_cons_zero])
        refine wpAnyH_at 6 #[true, true, true, true, true, true, false, false, false, false, true, false, false] (by kernel_rfl) (by kernel_rfl) ?_
        exact N3_1 X b0 hH V0 n0_0 n0_1 n0_2
    have N2_0 : ∀ (W : World), (Below w.heap.size w W ∧ W.heap[w.heap.size]? = some (.cells (vrow 266 s.at) 31) ∧ W.heap[w.heap.size + 1]? = some (.cells (vrow 3 (foAt ax d p)) 33) ∧ W.heap[w.heap.size + 2]? = some (.cells (vrow 2 (spAt x y)) 35)) → wpAnyH Tryd.prog .any O QQ SS 8 #[true, true, true, true, true, false, false, false, false, false, false, false, false] { tmps := #[.agg (vrow 266 s.at), .agg (vrow 3 (foAt ax d p)), .agg (vrow 2 (spAt x y)), .pointer (some ⟨w.heap.size, 0, none⟩), .pointer (some ⟨w.heap.size + 1, 0, none⟩), .pointer (some ⟨w.heap.size + 2, 0, none⟩), .bool false, undef, undef, undef, undef, undef, .agg (vrow 266 s.at), .agg (vrow 266 s.at), .agg (vrow 3 (foAt ax d p)), .agg (vrow 3 (foAt ax d p)), .agg (vrow 2 (spAt x y)), undef, undef, undef, undef, undef, undef, undef, undef, undef, undef, undef, undef, undef, undef, undef, undef, undef, undef, undef, undef, undef, undef, undef], defers := [] } W := by
      intro W hH
      subst hO hSS hQQ
      refine wpAnyH_ready (rs := [5, 10]) (by kernel_rfl) (by simp) (AllReadyH.cons rfl (fun K hK => ?_) (AllReadyH.cons rfl (fun K hK => ?_) AllReadyH.nil))
      · rw [if_pos (by rfl)]
        go_simp
        go_at_call 18
        refine (HT2.out _).mono ?_
        rintro o X ⟨rfl, hb⟩
        replace hH : Below w.heap.size w X ∧ X.heap[w.heap.size]? = some (.cells (vrow 266 s.at) 31) ∧ X.heap[w.heap.size + 1]? = some (.cells (vrow 3 (foAt ax d p)) 33) ∧ X.heap[w.heap.size + 2]? = some (.cells (vrow 2 (spAt x y)) 35) := ⟨hH.1.trans (hb.mono hH.1.size), row_next hb hH.2.1, row_next hb hH.2.2.1, row_next hb hH.2.2.2⟩
        clear hb
        refine hK.out _ _ hH (fun hH => ?_)
        clear hK K
        (try simp only [Act.put, List.setIfInBounds_toArray, List.set_cons_succ, List.set_cons_zero])
        refine wpAnyH_at 7 #[true, true, true, true, true, true, false, false, false, false, false, false, false] (by kernel_rfl) (by kernel_rfl) ?_
        exact N3_0 X  hH
      · rw [if_pos (by rfl)]
        go_simp
        try simp only [sp_vrow]
        have V := heap_at W (.cells (vrow 2 (spAt 0 0)) 36) _ rfl
        have m0 := row_lt hH.2.1
        have m1 := row_lt hH.2.2.1
        have m2 := row_lt hH.2.2.2
        replace hH : Below w.heap.size w (W.alloc (.cells (vrow 2 (spAt 0 0)) 36)) ∧ (W.alloc (.cells (vrow 2 (spAt 0 0)) 36)).heap[w.heap.size]? = some (.cells (vrow 266 s.at) 31) ∧ (W.alloc (.cells (vrow 2 (spAt 0 0)) 36)).heap[w.heap.size + 1]? = some (.cells (vrow 3 (foAt ax d p)) 33) ∧ (W.alloc (.cells (vrow 2 (spAt 0 0)) 36)).heap[w.heap.size + 2]? = some (.cells (vrow 2 (spAt x y)) 35) := ⟨hH.1.alloc hH.1.size _, heap_past _ _ _ _ m0 hH.2.1, heap_past _ _ _ _ m1 hH.2.2.1, heap_past _ _ _ _ m2 hH.2.2.2⟩
        refine hK.out _ _ hH (fun hH => ?_)
        clear hK K
        (try simp only [Act.put, List.setIfInBounds_toArray, List.set_cons_succ, List.set_cons_zero])
        refine wpAnyH_at 7 #[true, true, true, true, true, false, false, false, false, false, true, false, false] (by kernel_rfl) (by kernel_rfl) ?_
        exact N2_1 (W.alloc (.cells (vrow 2 (spAt 0 0)) 36)) W.heap.size hH V m0 m1 m2
    have N1_1 : ∀ (W : World) (b0 : Nat), (Below w.heap.size w W ∧ W.heap[w.heap.size]? = some (.cells (vrow 266 s.at) 31) ∧ W.heap[w.heap.size + 1]? = some (.cells (vrow 3 (foAt ax d p)) 33) ∧ W.heap[w.heap.size + 2]? = some (.cells (vrow 2 (spAt x y)) 35)) → W.heap[b0]? = some (.cells (vrow 2 (spAt 0 0)) 36) → w.heap.size < b0 → w.heap.size + 1 < b0 → w.heap.size + 2 < b0 → wpAnyH Tryd.prog .any O QQ SS 8 #[true, true, true, false, true, false, false, false, false, false, true, false, false] { tmps := #[.agg (vrow 266 s.at), .agg (vrow 3 (foAt ax d p)), .agg (vrow 2 (spAt x y)), .pointer (some ⟨w.heap.size, 0, none⟩), .pointer (some ⟨w.heap.size + 1, 0, none⟩), .pointer (some ⟨w.heap.size + 2, 0, none⟩), .bool false, .pointer (some ⟨b0, 0, none⟩), undef, undef, undef, undef, .agg (vrow 266 s.at), .agg (vrow 266 s.at), .agg (vrow 3 (foAt ax d p)), undef, .agg (vrow 2 (spAt x y)), undef, undef, undef, undef, undef, undef, undef, undef, undef, undef, undef, undef, undef, undef, undef, undef, undef, undef, undef, undef, undef, undef, undef], defers := [] } W := by
      intro W b0 hH V0 n0_0 n0_1 n0_2
      subst hO hSS hQQ
      refine wpAnyH_ready (rs := [3]) (by kernel_rfl) (by simp) (AllReadyH.cons rfl (fun K hK => ?_) AllReadyH.nil)
      · rw [if_pos (by rfl)]
        go_simp
        go_at_call 17
        refine (HT1.out _).mono ?_
        rintro o X ⟨rfl, hb⟩
        replace hH : Below w.heap.size w X ∧ X.heap[w.heap.size]? = some (.cells (vrow 266 s.at) 31) ∧ X.heap[w.heap.size + 1]? = some (.cells (vrow 3 (foAt ax d p)) 33) ∧ X.heap[w.heap.size + 2]? = some (.cells (vrow 2 (spAt x y)) 35) := ⟨hH.1.trans (hb.mono hH.1.size), row_next hb hH.2.1, row_next hb hH.2.2.1, row_next hb hH.2.2.2⟩
        replace V0 := row_next hb V0
        clear hb
        refine hK.out _ _ hH (fun hH => ?_)
        clear hK K
        (try simp only [Act.put, List.setIfInBounds_toArray, List.set_cons_succ, List.set_cons_zero])
        refine wpAnyH_at 7 #[true, true, true, true, true, false, false, false, false, false, true, false, false] (by kernel_rfl) (by kernel_rfl) ?_
        exact N2_1 X b0 hH V0 n0_0 n0_1 n0_2
    have N1_0 : ∀ (W : World), (Below w.heap.size w W ∧ W.heap[w.heap.size]? = some (.cells (vrow 266 s.at) 31) ∧ W.heap[w.heap.size + 1]? = some (.cells (vrow 3 (foAt ax d p)) 33) ∧ W.heap[w.heap.size + 2]? = some (.cells (vrow 2 (spAt x y)) 35)) → wpAnyH Tryd.prog .any O QQ SS 9 #[true, true, true, false, true, false, false, false, false, false, false, false, false] { tmps := #[.agg (vrow 266 s.at), .agg (vrow 3 (foAt ax d p)), .agg (vrow 2 (spAt x y)), .pointer (some ⟨w.heap.size, 0, none⟩), .pointer (some ⟨w.heap.size + 1, 0, none⟩), .pointer (some ⟨w.heap.size + 2, 0, none⟩), .bool false, undef, undef, undef, undef, undef, .agg (vrow 266 s.at), .agg (vrow 266 s.at), .agg (vrow 3 (foAt ax d p)), undef, .agg (vrow 2 (spAt x y)), undef, undef, undef, undef, undef, undef, undef, undef, undef, undef, undef, undef, undef, undef, undef, undef, undef, undef, undef, undef, undef, undef, undef], defers := [] } W := by
      intro W hH
      subst hO hSS hQQ
      refine wpAnyH_ready (rs := [3, 10]) (by kernel_rfl) (by simp) (AllReadyH.cons rfl (fun K hK => ?_) (AllReadyH.cons rfl (fun K hK => ?_) AllReadyH.nil))
      · rw [if_pos (by rfl)]
        go_simp
        go_at_call 17
        refine (HT1.out _).mono ?_
        rintro o X ⟨rfl, hb⟩
        replace hH : Below w.heap.size w X ∧ X.heap[w.heap.size]? = some (.cells (vrow 266 s.at) 31) ∧ X.heap[w.heap.size + 1]? = some (.cells (vrow 3 (foAt ax d p)) 33) ∧ X.heap[w.heap.size + 2]? = some (.cells (vrow 2 (spAt x y)) 35) := ⟨hH.1.trans (hb.mono hH.1.size), row_next hb hH.2.1, row_next hb hH.2.2.1, row_next hb hH.2.2.2⟩
        clear hb
        refine hK.out _ _ hH (fun hH => ?_)
        clear hK K
        (try simp only [Act.put, List.setIfInBounds_toArray, List.set_cons_succ, List.set_cons_zero])
        refine wpAnyH_at 8 #[true, true, true, true, true, false, false, false, false, false, false, false, false] (by kernel_rfl) (by kernel_rfl) ?_
        exact N2_0 X  hH
      · rw [if_pos (by rfl)]
        go_simp
        try simp only [sp_vrow]
        have V := heap_at W (.cells (vrow 2 (spAt 0 0)) 36) _ rfl
        have m0 := row_lt hH.2.1
        have m1 := row_lt hH.2.2.1
        have m2 := row_lt hH.2.2.2
        replace hH : Below w.heap.size w (W.alloc (.cells (vrow 2 (spAt 0 0)) 36)) ∧ (W.alloc (.cells (vrow 2 (spAt 0 0)) 36)).heap[w.heap.size]? = some (.cells (vrow 266 s.at) 31) ∧ (W.alloc (.cells (vrow 2 (spAt 0 0)) 36)).heap[w.heap.size + 1]? = some (.cells (vrow 3 (foAt ax d p)) 33) ∧ (W.alloc (.cells (vrow 2 (spAt 0 0)) 36)).heap[w.heap.size + 2]? = some (.cells (vrow 2 (spAt x y)) 35) := ⟨hH.1.alloc hH.1.size _, heap_past _ _ _ _ m0 hH.2.1, heap_past _ _ _ _ m1 hH.2.2.1, heap_past _ _ _ _ m2 hH.2.2.2⟩
        refine hK.out _ _ hH (fun hH => ?_)
        clear hK K
        (try simp only [Act.put, List.setIfInBounds_toArray, List.set_cons_succ, List.set_cons_zero])
        refine wpAnyH_at 8 #[true, true, true, false, true, false, false, false, false, false, true, false, false] (by kernel_rfl) (by kernel_rfl) ?_
        exact N1_1 (W.alloc (.cells (vrow 2 (spAt 0 0)) 36)) W.heap.size hH V m0 m1 m2
    have N0_1 : ∀ (W : World) (b0 : Nat), (Below w.heap.size w W ∧ W.heap[w.heap.size]? = some (.cells (vrow 266 s.at) 31) ∧ W.heap[w.heap.size + 1]? = some (.cells (vrow 3 (foAt ax d p)) 33) ∧ W.heap[w.heap.size + 2]? = some (.cells (vrow 2 (spAt x y)) 35)) → W.heap[b0]? = some (.cells (vrow 2 (spAt 0 0)) 36) → w.heap.size < b0 → w.heap.size + 1 < b0 → w.heap.size + 2 < b0 → wpAnyH Tryd.prog .any O QQ SS 9 #[true, false, true, false, true, false, false, false, false, false, true, false, false] { tmps := #[.agg (vrow 266 s.at), .agg (vrow 3 (foAt ax d p)), .agg (vrow 2 (spAt x y)), .pointer (some ⟨w.heap.size, 0, none⟩), .pointer (some ⟨w.heap.size + 1, 0, none⟩), .pointer (some ⟨w.heap.size + 2, 0, none⟩), .bool false, .pointer (some ⟨b0, 0, none⟩), undef, undef, undef, undef, .agg (vrow 266 s.at), undef, .agg (vrow 3 (foAt ax d p)), undef, .agg (vrow 2 (spAt x y)), undef, undef, undef, undef, undef, undef, undef, undef, undef, undef, undef, undef, undef, undef, undef, undef, undef, undef, undef, undef, undef, undef, undef], defers := [] } W := by
      intro W b0 hH V0 n0_0 n0_1 n0_2
      subst hO hSS hQQ
      refine wpAnyH_ready (rs := [1]) (by kernel_rfl) (by simp) (AllReadyH.cons rfl (fun K hK => ?_) AllReadyH.nil)
      · rw [if_pos (by rfl)]
        go_simp
        go_at_call 16
        refine (HT0.out _).mono ?_
        rintro o X ⟨rfl, hb⟩
        replace hH : Below w.heap.size w X ∧ X.heap[w.heap.size]? = some (.cells (vrow 266 s.at) 31) ∧ X.heap[w.heap.size + 1]? = some (.cells (vrow 3 (foAt ax d p)) 33) ∧ X.heap[w.heap.size + 2]? = some (.cells (vrow 2 (spAt x y)) 35) := ⟨hH.1.trans (hb.mono hH.1.size), row_next hb hH.2.1, row_next hb hH.2.2.1, row_next hb hH.2.2.2⟩
        replace V0 := row_next hb V0
        clear hb
        refine hK.out _ _ hH (fun hH => ?_)
        clear hK K
        (try simp only [Act.put, List.setIfInBounds_toArray, List.set_cons_succ, List.set_cons_zero])
        refine wpAnyH_at 8 #[true, true, true, false, true, false, false, false, false, false, true, false, false] (by kernel_rfl) (by kernel_rfl) ?_
        exact N1_1 X b0 hH V0 n0_0 n0_1 n0_2
    have N0_0 : ∀ (W : World), (Below w.heap.size w W ∧ W.heap[w.heap.size]? = some (.cells (vrow 266 s.at) 31) ∧ W.heap[w.heap.size + 1]? = some (.cells (vrow 3 (foAt ax d p)) 33) ∧ W.heap[w.heap.size + 2]? = some (.cells (vrow 2 (spAt x y)) 35)) → wpAnyH Tryd.prog .any O QQ SS 10 #[true, false, true, false, true, false, false, false, false, false, false, false, false] { tmps := #[.agg (vrow 266 s.at), .agg (vrow 3 (foAt ax d p)), .agg (vrow 2 (spAt x y)), .pointer (some ⟨w.heap.size, 0, none⟩), .pointer (some ⟨w.heap.size + 1, 0, none⟩), .pointer (some ⟨w.heap.size + 2, 0, none⟩), .bool false, undef, undef, undef, undef, undef, .agg (vrow 266 s.at), undef, .agg (vrow 3 (foAt ax d p)), undef, .agg (vrow 2 (spAt x y)), undef, undef, undef, undef, undef, undef, undef, undef, undef, undef, undef, undef, undef, undef, undef, undef, undef, undef, undef, undef, undef, undef, undef], defers := [] } W := by
      intro W hH
      subst hO hSS hQQ
      refine wpAnyH_ready (rs := [1, 10]) (by kernel_rfl) (by simp) (AllReadyH.cons rfl (fun K hK => ?_) (AllReadyH.cons rfl (fun K hK => ?_) AllReadyH.nil))
      · rw [if_pos (by rfl)]
        go_simp
        go_at_call 16
        refine (HT0.out _).mono ?_
        rintro o X ⟨rfl, hb⟩
        replace hH : Below w.heap.size w X ∧ X.heap[w.heap.size]? = some (.cells (vrow 266 s.at) 31) ∧ X.heap[w.heap.size + 1]? = some (.cells (vrow 3 (foAt ax d p)) 33) ∧ X.heap[w.heap.size + 2]? = some (.cells (vrow 2 (spAt x y)) 35) := ⟨hH.1.trans (hb.mono hH.1.size), row_next hb hH.2.1, row_next hb hH.2.2.1, row_next hb hH.2.2.2⟩
        clear hb
        refine hK.out _ _ hH (fun hH => ?_)
        clear hK K
        (try simp only [Act.put, List.setIfInBounds_toArray, List.set_cons_succ, List.set_cons_zero])
        refine wpAnyH_at 9 #[true, true, true, false, true, false, false, false, false, false, false, false, false] (by kernel_rfl) (by kernel_rfl) ?_
        exact N1_0 X  hH
      · rw [if_pos (by rfl)]
        go_simp
        try simp only [sp_vrow]
        have V := heap_at W (.cells (vrow 2 (spAt 0 0)) 36) _ rfl
        have m0 := row_lt hH.2.1
        have m1 := row_lt hH.2.2.1
        have m2 := row_lt hH.2.2.2
        replace hH : Below w.heap.size w (W.alloc (.cells (vrow 2 (spAt 0 0)) 36)) ∧ (W.alloc (.cells (vrow 2 (spAt 0 0)) 36)).heap[w.heap.size]? = some (.cells (vrow 266 s.at) 31) ∧ (W.alloc (.cells (vrow 2 (spAt 0 0)) 36)).heap[w.heap.size + 1]? = some (.cells (vrow 3 (foAt ax d p)) 33) ∧ (W.alloc (.cells (vrow 2 (spAt 0 0)) 36)).heap[w.heap.size + 2]? = some (.cells (vrow 2 (spAt x y)) 35) := ⟨hH.1.alloc hH.1.size _, heap_past _ _ _ _ m0 hH.2.1, heap_past _ _ _ _ m1 hH.2.2.1, heap_past _ _ _ _ m2 hH.2.2.2⟩
        refine hK.out _ _ hH (fun hH => ?_)
        clear hK K
        (try simp only [Act.put, List.setIfInBounds_toArray, List.set_cons_succ, List.set_cons_zero])
        refine wpAnyH_at 9 #[true, false, true, false, true, false, false, false, false, false, true, false, false] (by kernel_rfl) (by kernel_rfl) ?_
        exact N0_1 (W.alloc (.cells (vrow 2 (spAt 0 0)) 36)) W.heap.size hH V m0 m1 m2
    subst hO hSS hQQ
    refine wp_region_held_drew (S := fun W' => Below w.heap.size w W' ∧ W'.heap[w.heap.size]? = some (.cells (vrow 266 s.at) 31) ∧ W'.heap[w.heap.size + 1]? = some (.cells (vrow 3 (foAt ax d p)) 33) ∧ W'.heap[w.heap.size + 2]? = some (.cells (vrow 2 (spAt x y)) 35)) (by kernel_rfl) ⟨hB.out.drew, P0.out, P1.out, P2.out⟩ (fun hH => ?_)
    generalize World.drew _ = W at hH ⊢
    refine wpAnyH_take (i := 0) (v := (.agg (vrow 266 s.at))) rfl (by kernel_rfl) (by kernel_rfl) (by kernel_rfl) (fun _ _ _ h => by cases h.1) (yields_row (by rfl) 31 _ rfl (w.heap.size) rfl 266 s.at 31 _ Tryd.underlying31 rfl size_lsheet (fun _ h => h.2.1)) hH ?_
    (try simp only [Act.put, List.setIfInBounds_toArray, List.set_cons_succ, List.set_cons_zero])
    refine wpAnyH_take (i := 2) (v := (.agg (vrow 3 (foAt ax d p)))) rfl (by kernel_rfl) (by kernel_rfl) (by kernel_rfl) (fun _ _ _ h => by cases h.1) (yields_row (by rfl) 33 _ rfl (w.heap.size + 1) rfl 3 (foAt ax d p) 33 _ Tryd.underlying33 rfl size_lfold (fun _ h => h.2.2.1)) hH ?_
    (try simp only [Act.put, List.setIfInBounds_toArray, List.set_cons_succ, List.set_cons_zero])
    refine wpAnyH_take (i := 4) (v := (.agg (vrow 2 (spAt x y)))) rfl (by kernel_rfl) (by kernel_rfl) (by kernel_rfl) (fun _ _ _ h => by cases h.1) (yields_row (by rfl) 35 _ rfl (w.heap.size + 2) rfl 2 (spAt x y) 35 _ Tryd.underlying35 rfl size_lspot (fun _ h => h.2.2.2)) hH ?_
    (try simp only [Act.put, List.setIfInBounds_toArray, List.set_cons_succ, List.set_cons_zero])
    refine wpAnyH_at 10 #[true, false, true, false, true, false, false, false, false, false, false, false, false] (by kernel_rfl) (by kernel_rfl) ?_
    exact N0_0 W hH
  rintro e1 a1 W1 ⟨rfl, b0, rfl, ⟨hB, P0, P1, P2⟩, U0⟩
  replace hB := Go.Lib.hid hB; replace P0 := Go.Lib.hid P0; replace P1 := Go.Lib.hid P1; replace P2 := Go.Lib.hid P2; replace U0 := Go.Lib.hid U0
  go_wp2
  refine Code.wp_mono (Q := fun e a' W' => e = .normal ∧ ∃ c0, a' = { tmps := #[.agg (vrow 266 s.at), .agg (vrow 3 (foAt ax d p)), .agg (vrow 2 (spAt x y)), .pointer (some ⟨w.heap.size, 0, none⟩), .pointer (some ⟨w.heap.size + 1, 0, none⟩), .pointer (some ⟨w.heap.size + 2, 0, none⟩), .bool false, .pointer (some ⟨b0, 0, none⟩), .int .i64 c, .pointer (some ⟨c0, 0, none⟩), .int .i64 c, .tuple #[.agg (vrow 2 (spAt q1 q2)), .int .i64 c], .agg (vrow 266 s.at), .agg (vrow 266 s.at), .agg (vrow 3 (foAt ax d p)), .agg (vrow 3 (foAt ax d p)), .agg (vrow 2 (spAt x y)), .agg (vrow 2 (spAt x y)), .tuple #[.agg (vrow 2 (spAt q1 q2)), .int .i64 c], .agg (vrow 2 (spAt q1 q2)), .int .i64 c, .tuple #[.agg (vrow 2 (spAt q1 q2)), .int .i64 c], .agg (vrow 266 s.at), .agg (vrow 266 s.at), .agg (vrow 3 (foAt ax d p)), .agg (vrow 3 (foAt ax d p)), .agg (vrow 2 (spAt x y)), .agg (vrow 2 (spAt x y)), .tuple #[.agg (vrow 2 (spAt q1 q2)), .int .i64 c], .agg (vrow 2 (spAt q1 q2)), .int .i64 c, undef, undef, undef, undef, undef, undef, undef, undef, undef], defers := [] } ∧ (Below w.heap.size w W' ∧ W'.heap[w.heap.size]? = some (.cells (vrow 266 s.at) 31) ∧ W'.heap[w.heap.size + 1]? = some (.cells (vrow 3 (foAt ax d p)) 33) ∧ W'.heap[w.heap.size + 2]? = some (.cells (vrow 2 (spAt x y)) 35) ∧ W'.heap[b0]? = some (.cells (vrow 2 (spAt q1 q2)) 36)) ∧ W'.heap[c0]? = some (.cells (vrow 2 (spAt q1 q2)) 36)) ?_ ?_
  rotate_left
  · refine region_gen (fun O hO => ?_)
    obtain ⟨SS, hSS⟩ : ∃ zS : World → Prop, zS = (fun W' => Below w.heap.size w W' ∧ W'.heap[w.heap.size]? = some (.cells (vrow 266 s.at) 31) ∧ W'.heap[w.heap.size + 1]? = some (.cells (vrow 3 (foAt ax d p)) 33) ∧ W'.heap[w.heap.size + 2]? = some (.cells (vrow 2 (spAt x y)) 35) ∧ W'.heap[b0]? = some (.cells (vrow 2 (spAt q1 q2)) 36)) := ⟨_, rfl⟩
    obtain ⟨QQ, hQQ⟩ : ∃ zQ : Exit → Act → World → Prop, zQ = (fun e a' W' => e = .normal ∧ ∃ c0, a' = { tmps := #[.agg (vrow 266 s.at), .agg (vrow 3 (foAt ax d p)), .agg (vrow 2 (spAt x y)), .pointer (some ⟨w.heap.size, 0, none⟩), .pointer (some ⟨w.heap.size + 1, 0, none⟩), .pointer (some ⟨w.heap.size + 2, 0, none⟩), .bool false, .pointer (some ⟨b0, 0, none⟩), .int .i64 c, .pointer (some ⟨c0, 0, none⟩), .int .i64 c, .tuple #[.agg (vrow 2 (spAt q1 q2)), .int .i64 c], .agg (vrow 266 s.at), .agg (vrow 266 s.at), .agg (vrow 3 (foAt ax d p)), .agg (vrow 3 (foAt ax d p)), .agg (vrow 2 (spAt x y)), .agg (vrow 2 (spAt x y)), .tuple #[.agg (vrow 2 (spAt q1 q2)), .int .i64 c], .agg (vrow 2 (spAt q1 q2)), .int .i64 c, .tuple #[.agg (vrow 2 (spAt q1 q2)), .int .i64 c], .agg (vrow 266 s.at), .agg (vrow 266 s.at), .agg (vrow 3 (foAt ax d p)), .agg (vrow 3 (foAt ax d p)), .agg (vrow 2 (spAt x y)), .agg (vrow 2 (spAt x y)), .tuple #[.agg (vrow 2 (spAt q1 q2)), .int .i64 c], .agg (vrow 2 (spAt q1 q2)), .int .i64 c, undef, undef, undef, undef, undef, undef, undef, undef, undef], defers := [] } ∧ (Below w.heap.size w W' ∧ W'.heap[w.heap.size]? = some (.cells (vrow 266 s.at) 31) ∧ W'.heap[w.heap.size + 1]? = some (.cells (vrow 3 (foAt ax d p)) 33) ∧ W'.heap[w.heap.size + 2]? = some (.cells (vrow 2 (spAt x y)) 35) ∧ W'.heap[b0]? = some (.cells (vrow 2 (spAt q1 q2)) 36)) ∧ W'.heap[c0]? = some (.cells (vrow 2 (spAt q1 q2)) 36)) := ⟨_, rfl⟩
    rw [← hQQ]
    have M4_1 : ∀ (W : World) (c0 : Nat), (Below w.heap.size w W ∧ W.heap[w.heap.size]? = some (.cells (vrow 266 s.at) 31) ∧ W.heap[w.heap.size + 1]? = some (.cells (vrow 3 (foAt ax d p)) 33) ∧ W.heap[w.heap.size + 2]? = some (.cells (vrow 2 (spAt x y)) 35) ∧ W.heap[b0]? = some (.cells (vrow 2 (spAt q1 q2)) 36)) → W.heap[c0]? = some (.cells (vrow 2 (spAt 0 0)) 36) → w.heap.size < c0 → w.heap.size + 1 < c0 → w.heap.size + 2 < c0 → b0 < c0 → wpAnyH Tryd.prog .any O QQ SS 2 #[true, true, true, true, true, true, true, true, true, true, true, false, false] { tmps := #[.agg (vrow 266 s.at), .agg (vrow 3 (foAt ax d p)), .agg (vrow 2 (spAt x y)), .pointer (some ⟨w.heap.size, 0, none⟩), .pointer (some ⟨w.heap.size + 1, 0, none⟩), .pointer (some ⟨w.heap.size + 2, 0, none⟩), .bool false, .pointer (some ⟨b0, 0, none⟩), .int .i64 c, .pointer (some ⟨c0, 0, none⟩), undef, .tuple #[.agg (vrow 2 (spAt q1 q2)), .int .i64 c], .agg (vrow 266 s.at), .agg (vrow 266 s.at), .agg (vrow 3 (foAt ax d p)), .agg (vrow 3 (foAt ax d p)), .agg (vrow 2 (spAt x y)), .agg (vrow 2 (spAt x y)), .tuple #[.agg (vrow 2 (spAt q1 q2)), .int .i64 c], .agg (vrow 2 (spAt q1 q2)), .int .i64 c, .tuple #[.agg (vrow 2 (spAt q1 q2)), .int .i64 c], .agg (vrow 266 s.at), .agg (vrow 266 s.at), .agg (vrow 3 (foAt ax d p)), .agg (vrow 3 (foAt ax d p)), .agg (vrow 2 (spAt x y)), .agg (vrow 2 (spAt x y)), .tuple #[.agg (vrow 2 (spAt q1 q2)), .int .i64 c], .agg (vrow 2 (spAt q1 q2)), .int .i64 c, undef, undef, undef, undef, undef, undef, undef, undef, undef], defers := [] } W := by
      intro W c0 hH V0 n0_0 n0_1 n0_2 n0_3
      subst hO hSS hQQ
      refine wpAnyH_ready (rs := [11]) (by kernel_rfl) (by simp) (AllReadyH.cons rfl (fun K hK => ?_) AllReadyH.nil)
      rw [if_pos (by rfl)]
      unfold Oper.wp
      rw [run_storemid 36 (.tmp 9) (.tmp 29) rfl c0 0 rfl 2 2 (spAt 0 0) (spAt q1 q2) rfl 36 size_spot V0 (by omega) (fun i _ => spAt_one _ _ i), vrow_over_all, Oper.upon_skip]
      replace V0 := row_set V0 (vrow 2 (spAt q1 q2))
      have hH2 : Below w.heap.size w (W.setRow c0 (vrow 2 (spAt q1 q2))) ∧ (W.setRow c0 (vrow 2 (spAt q1 q2))).heap[w.heap.size]? = some (.cells (vrow 266 s.at) 31) ∧ (W.setRow c0 (vrow 2 (spAt q1 q2))).heap[w.heap.size + 1]? = some (.cells (vrow 3 (foAt ax d p)) 33) ∧ (W.setRow c0 (vrow 2 (spAt q1 q2))).heap[w.heap.size + 2]? = some (.cells (vrow 2 (spAt x y)) 35) ∧ (W.setRow c0 (vrow 2 (spAt q1 q2))).heap[b0]? = some (.cells (vrow 2 (spAt q1 q2)) 36) := ⟨Below_setRow hH.1 (by omega) _, row_set' (by omega) hH.2.1 _, row_set' (by omega) hH.2.2.1 _, row_set' (by omega) hH.2.2.2.1 _, row_set' (by omega) hH.2.2.2.2 _⟩
      refine hK.out _ _ hH2 (fun hH => ?_)
      clear hK K hH2
      (try simp only [Act.put, List.setIfInBounds_toArray, List.set_cons_succ, List.set_cons_zero])
      generalize (W.setRow c0 (vrow 2 (spAt q1 q2))) = Y0 at hH V0 ⊢
      refine wpAnyH_take (i := 12) (v := (.int .i64 c)) rfl (by kernel_rfl) (by kernel_rfl) (by kernel_rfl) (fun _ _ _ h => by cases h.1) (.inl ⟨by rfl, fun w _ => by go_simp⟩) hH ?_
      (try simp only [Act.put, List.setIfInBounds_toArray, List.set_cons_succ, List.set_cons_zero])
      refine wpAnyH_done (by kernel_rfl) ?_ _
      exact ⟨rfl, c0, rfl, hH, V0⟩
    have M4_0 : ∀ (W : World), (Below w.heap.size w W ∧ W.heap[w.heap.size]? = some (.cells (vrow 266 s.at) 31) ∧ W.heap[w.heap.size + 1]? = some (.cells (vrow 3 (foAt ax d p)) 33) ∧ W.heap[w.heap.size + 2]? = some (.cells (vrow 2 (spAt x y)) 35) ∧ W.heap[b0]? = some (.cells (vrow 2 (spAt q1 q2)) 36)) → wpAnyH Tryd.prog .any O QQ SS 3 #[true, true, true, true, true, true, true, true, true, true, false, false, false] { tmps := #[.agg (vrow 266 s.at), .agg (vrow 3 (foAt ax d p)), .agg (vrow 2 (spAt x y)), .pointer (some ⟨w.heap.size, 0, none⟩), .pointer (some ⟨w.heap.size + 1, 0, none⟩), .pointer (some ⟨w.heap.size + 2, 0, none⟩), .bool false, .pointer (some ⟨b0, 0, none⟩), .int .i64 c, undef, undef, .tuple #[.agg (vrow 2 (spAt q1 q2)), .int .i64 c], .agg (vrow 266 s.at), .agg (vrow 266 s.at), .agg (vrow 3 (foAt ax d p)), .agg (vrow 3 (foAt ax d p)), .agg (vrow 2 (spAt x y)), .agg (vrow 2 (spAt x y)), .tuple #[.agg (vrow 2 (spAt q1 q2)), .int .i64 c], .agg (vrow 2 (spAt q1 q2)), .int .i64 c, .tuple #[.agg (vrow 2 (spAt q1 q2)), .int .i64 c], .agg (vrow 266 s.at), .agg (vrow 266 s.at), .agg (vrow 3 (foAt ax d p)), .agg (vrow 3 (foAt ax d p)), .agg (vrow 2 (spAt x y)), .agg (vrow 2 (spAt x y)), .tuple #[.agg (vrow 2 (spAt q1 q2)), .int .i64 c], .agg (vrow 2 (spAt q1 q2)), .int .i64 c, undef, undef, undef, undef, undef, undef, undef, undef, undef], defers := [] } W := by
      intro W hH
      subst hO hSS hQQ
      refine wpAnyH_ready (rs := [10]) (by kernel_rfl) (by simp) (AllReadyH.cons rfl (fun K hK => ?_) AllReadyH.nil)
      · rw [if_pos (by rfl)]
        go_simp
        try simp only [sp_vrow]
        have V := heap_at W (.cells (vrow 2 (spAt 0 0)) 36) _ rfl
        have m0 := row_lt hH.2.1
        have m1 := row_lt hH.2.2.1
        have m2 := row_lt hH.2.2.2.1
        have m3 := row_lt hH.2.2.2.2
        replace hH : Below w.heap.size w (W.alloc (.cells (vrow 2 (spAt 0 0)) 36)) ∧ (W.alloc (.cells (vrow 2 (spAt 0 0)) 36)).heap[w.heap.size]? = some (.cells (vrow 266 s.at) 31) ∧ (W.alloc (.cells (vrow 2 (spAt 0 0)) 36)).heap[w.heap.size + 1]? = some (.cells (vrow 3 (foAt ax d p)) 33) ∧ (W.alloc (.cells (vrow 2 (spAt 0 0)) 36)).heap[w.heap.size + 2]? = some (.cells (vrow 2 (spAt x y)) 35) ∧ (W.alloc (.cells (vrow 2 (spAt 0 0)) 36)).heap[b0]? = some (.cells (vrow 2 (spAt q1 q2)) 36) := ⟨hH.1.alloc hH.1.size _, heap_past _ _ _ _ m0 hH.2.1, heap_past _ _ _ _ m1 hH.2.2.1, heap_past _ _ _ _ m2 hH.2.2.2.1, heap_past _ _ _ _ m3 hH.2.2.2.2⟩
        refine hK.out _ _ hH (fun hH => ?_)
        clear hK K
        (try simp only [Act.put, List.setIfInBounds_toArray, List.set_cons_succ, List.set_cons_zero])
        refine wpAnyH_at 2 #[true, true, true, true, true, true, true, true, true, true, true, false, false] (by kernel_rfl) (by kernel_rfl) ?_
        exact M4_1 (W.alloc (.cells (vrow 2 (spAt 0 0)) 36)) W.heap.size hH V m0 m1 m2 m3
    have M3_1 : ∀ (W : World) (c0 : Nat), (Below w.heap.size w W ∧ W.heap[w.heap.size]? = some (.cells (vrow 266 s.at) 31) ∧ W.heap[w.heap.size + 1]? = some (.cells (vrow 3 (foAt ax d p)) 33) ∧ W.heap[w.heap.size + 2]? = some (.cells (vrow 2 (spAt x y)) 35) ∧ W.heap[b0]? = some (.cells (vrow 2 (spAt q1 q2)) 36)) → W.heap[c0]? = some (.cells (vrow 2 (spAt 0 0)) 36) → w.heap.size < c0 → w.heap.size + 1 < c0 → w.heap.size + 2 < c0 → b0 < c0 → wpAnyH Tryd.prog .any O QQ SS 6 #[true, true, true, true, true, true, false, false, false, false, true, false, false] { tmps := #[.agg (vrow 266 s.at), .agg (vrow 3 (foAt ax d p)), .agg (vrow 2 (spAt x y)), .pointer (some ⟨w.heap.size, 0, none⟩), .pointer (some ⟨w.heap.size + 1, 0, none⟩), .pointer (some ⟨w.heap.size + 2, 0, none⟩), .bool false, .pointer (some ⟨b0, 0, none⟩), .int .i64 c, .pointer (some ⟨c0, 0, none⟩), undef, .tuple #[.agg (vrow 2 (spAt q1 q2)), .int .i64 c], .agg (vrow 266 s.at), .agg (vrow 266 s.at), .agg (vrow 3 (foAt ax d p)), .agg (vrow 3 (foAt ax d p)), .agg (vrow 2 (spAt x y)), .agg (vrow 2 (spAt x y)), .tuple #[.agg (vrow 2 (spAt q1 q2)), .int .i64 c], .agg (vrow 2 (spAt q1 q2)), .int .i64 c, undef, .agg (vrow 266 s.at), .agg (vrow 266 s.at), .agg (vrow 3 (foAt ax d p)), .agg (vrow 3 (foAt ax d p)), .agg (vrow 2 (spAt x y)), .agg (vrow 2 (spAt x y)), undef, undef, undef, undef, undef, undef, undef, undef, undef, undef, undef, undef], defers := [] } W := by
      intro W c0 hH V0 n0_0 n0_1 n0_2 n0_3
      subst hO hSS hQQ
      refine wpAnyH_ready (rs := [6]) (by kernel_rfl) (by simp) (AllReadyH.cons rfl (fun K hK => ?_) AllReadyH.nil)
      · rw [if_pos (by rfl)]
        go_simp
        go_at_call 19
        refine (HI.out _ (hE.next hH.1)).mono ?_
        rintro o X ⟨rfl, hb⟩
        replace hH : Below w.heap.size w X ∧ X.heap[w.heap.size]? = some (.cells (vrow 266 s.at) 31) ∧ X.heap[w.heap.size + 1]? = some (.cells (vrow 3 (foAt ax d p)) 33) ∧ X.heap[w.heap.size + 2]? = some (.cells (vrow 2 (spAt x y)) 35) ∧ X.heap[b0]? = some (.cells (vrow 2 (spAt q1 q2)) 36) := ⟨hH.1.trans (hb.mono hH.1.size), row_next hb hH.2.1, row_next hb hH.2.2.1, row_next hb hH.2.2.2.1, row_next hb hH.2.2.2.2⟩
        replace V0 := row_next hb V0
        clear hb
        refine hK.out _ _ hH (fun hH => ?_)
        clear hK K
        (try simp only [Act.put, List.setIfInBounds_toArray, List.set_cons_succ, List.set_cons_zero])
        refine wpAnyH_take (i := 7) (v := (.tuple #[.agg (vrow 2 (spAt q1 q2)), .int .i64 c])) rfl (by kernel_rfl) (by kernel_rfl) (by kernel_rfl) (fun _ _ _ h => by cases h.1) (.inl ⟨by rfl, fun w _ => by go_simp⟩) hH ?_
        (try simp only [Act.put, List.setIfInBounds_toArray, List.set_cons_succ, List.set_cons_zero])
        refine wpAnyH_take (i := 8) (v := (.agg (vrow 2 (spAt q1 q2)))) rfl (by kernel_rfl) (by kernel_rfl) (by kernel_rfl) (fun _ _ _ h => by cases h.1) (.inl ⟨by rfl, fun w _ => by go_simp⟩) hH ?_
        (try simp only [Act.put, List.setIfInBounds_toArray, List.set_cons_succ, List.set_cons_zero])
        refine wpAnyH_take (i := 9) (v := (.int .i64 c)) rfl (by kernel_rfl) (by kernel_rfl) (by kernel_rfl) (fun _ _ _ h => by cases h.1) (.inl ⟨by rfl, fun w _ => by go_simp⟩) hH ?_
        (try simp only [Act.put, List.setIfInBounds_toArray, List.set_cons_succ, List.set_cons_zero])
        refine wpAnyH_at 2 #[true, true, true, true, true, true, true, true, true, true, true, false, false] (by kernel_rfl) (by kernel_rfl) ?_
        exact M4_1 X c0 hH V0 n0_0 n0_1 n0_2 n0_3
    have M3_0 : ∀ (W : World), (Below w.heap.size w W ∧ W.heap[w.heap.size]? = some (.cells (vrow 266 s.at) 31) ∧ W.heap[w.heap.size + 1]? = some (.cells (vrow 3 (foAt ax d p)) 33) ∧ W.heap[w.heap.size + 2]? = some (.cells (vrow 2 (spAt x y)) 35) ∧ W.heap[b0]? = some (.cells (vrow 2 (spAt q1 q2)) 36)) → wpAnyH Tryd.prog .any O QQ SS 7 #[true, true, true, true, true, true, false, false, false, false, false, false, false] { tmps := #[.agg (vrow 266 s.at), .agg (vrow 3 (foAt ax d p)), .agg (vrow 2 (spAt x y)), .pointer (some ⟨w.heap.size, 0, none⟩), .pointer (some ⟨w.heap.size + 1, 0, none⟩), .pointer (some ⟨w.heap.size + 2, 0, none⟩), .bool false, .pointer (some ⟨b0, 0, none⟩), .int .i64 c, undef, undef, .tuple #[.agg (vrow 2 (spAt q1 q2)), .int .i64 c], .agg (vrow 266 s.at), .agg (vrow 266 s.at), .agg (vrow 3 (foAt ax d p)), .agg (vrow 3 (foAt ax d p)), .agg (vrow 2 (spAt x y)), .agg (vrow 2 (spAt x y)), .tuple #[.agg (vrow 2 (spAt q1 q2)), .int .i64 c], .agg (vrow 2 (spAt q1 q2)), .int .i64 c, undef, .agg (vrow 266 s.at), .agg (vrow 266 s.at), .agg (vrow 3 (foAt ax d p)), .agg (vrow 3 (foAt ax d p)), .agg (vrow 2 (spAt x y)), .agg (vrow 2 (spAt x y)), undef, undef, undef, undef, undef, undef, undef, undef, undef, undef, undef, undef], defers := [] } W := by
      intro W hH
      subst hO hSS hQQ
      refine wpAnyH_ready (rs := [6, 10]) (by kernel_rfl) (by simp) (AllReadyH.cons rfl (fun K hK => ?_) (AllReadyH.cons rfl (fun K hK => ?_) AllReadyH.nil))
      · rw [if_pos (by rfl)]
        go_simp
        go_at_call 19
        refine (HI.out _ (hE.next hH.1)).mono ?_
        rintro o X ⟨rfl, hb⟩
        replace hH : Below w.heap.size w X ∧ X.heap[w.heap.size]? = some (.cells (vrow 266 s.at) 31) ∧ X.heap[w.heap.size + 1]? = some (.cells (vrow 3 (foAt ax d p)) 33) ∧ X.heap[w.heap.size + 2]? = some (.cells (vrow 2 (spAt x y)) 35) ∧ X.heap[b0]? = some (.cells (vrow 2 (spAt q1 q2)) 36) := ⟨hH.1.trans (hb.mono hH.1.size), row_next hb hH.2.1, row_next hb hH.2.2.1, row_next hb hH.2.2.2.1, row_next hb hH.2.2.2.2⟩
        clear hb
        refine hK.out _ _ hH (fun hH => ?_)
        clear hK K
        (try simp only [Act.put, List.setIfInBounds_toArray, List.set_cons_succ, List.set_cons_zero])
        refine wpAnyH_take (i := 7) (v := (.tuple #[.agg (vrow 2 (spAt q1 q2)), .int .i64 c])) rfl (by kernel_rfl) (by kernel_rfl) (by kernel_rfl) (fun _ _ _ h => by cases h.1) (.inl ⟨by rfl, fun w _ => by go_simp⟩) hH ?_
        (try simp only [Act.put, List.setIfInBounds_toArray, List.set_cons_succ, List.set_cons_zero])
        refine wpAnyH_take (i := 8) (v := (.agg (vrow 2 (spAt q1 q2)))) rfl (by kernel_rfl) (by kernel_rfl) (by kernel_rfl) (fun _ _ _ h => by cases h.1) (.inl ⟨by rfl, fun w _ => by go_simp⟩) hH ?_
        (try simp only [Act.put, List.setIfInBounds_toArray, List.set_cons_succ, List.set_cons_zero])
        refine wpAnyH_take (i := 9) (v := (.int .i64 c)) rfl (by kernel_rfl) (by kernel_rfl) (by kernel_rfl) (fun _ _ _ h => by cases h.1) (.inl ⟨by rfl, fun w _ => by go_simp⟩) hH ?_
        (try simp only [Act.put, List.setIfInBounds_toArray, List.set_cons_succ, List.set_cons_zero])
        refine wpAnyH_at 3 #[true, true, true, true, true, true, true, true, true, true, false, false, false] (by kernel_rfl) (by kernel_rfl) ?_
        exact M4_0 X  hH
      · rw [if_pos (by rfl)]
        go_simp
        try simp only [sp_vrow]
        have V := heap_at W (.cells (vrow 2 (spAt 0 0)) 36) _ rfl
        have m0 := row_lt hH.2.1
        have m1 := row_lt hH.2.2.1
        have m2 := row_lt hH.2.2.2.1
        have m3 := row_lt hH.2.2.2.2
        replace hH : Below w.heap.size w (W.alloc (.cells (vrow 2 (spAt 0 0)) 36)) ∧ (W.alloc (.cells (vrow 2 (spAt 0 0)) 36)).heap[w.heap.size]? = some (.cells (vrow 266 s.at) 31) ∧ (W.alloc (.cells (vrow 2 (spAt 0 0)) 36)).heap[w.heap.size + 1]? = some (.cells (vrow 3 (foAt ax d p)) 33) ∧ (W.alloc (.cells (vrow 2 (spAt 0 0)) 36)).heap[w.heap.size + 2]? = some (.cells (vrow 2 (spAt x y)) 35) ∧ (W.alloc (.cells (vrow 2 (spAt 0 0)) 36)).heap[b0]? = some (.cells (vrow 2 (spAt q1 q2)) 36) := ⟨hH.1.alloc hH.1.size _, heap_past _ _ _ _ m0 hH.2.1, heap_past _ _ _ _ m1 hH.2.2.1, heap_past _ _ _ _ m2 hH.2.2.2.1, heap_past _ _ _ _ m3 hH.2.2.2.2⟩
        refine hK.out _ _ hH (fun hH => ?_)
        clear hK K
        (try simp only [Act.put, List.setIfInBounds_toArray, List.set_cons_succ, List.set_cons_zero])
        refine wpAnyH_at 6 #[true, true, true, true, true, true, false, false, false, false, true, false, false] (by kernel_rfl) (by kernel_rfl) ?_
        exact M3_1 (W.alloc (.cells (vrow 2 (spAt 0 0)) 36)) W.heap.size hH V m0 m1 m2 m3
    have M2_1 : ∀ (W : World) (c0 : Nat), (Below w.heap.size w W ∧ W.heap[w.heap.size]? = some (.cells (vrow 266 s.at) 31) ∧ W.heap[w.heap.size + 1]? = some (.cells (vrow 3 (foAt ax d p)) 33) ∧ W.heap[w.heap.size + 2]? = some (.cells (vrow 2 (spAt x y)) 35) ∧ W.heap[b0]? = some (.cells (vrow 2 (spAt q1 q2)) 36)) → W.heap[c0]? = some (.cells (vrow 2 (spAt 0 0)) 36) → w.heap.size < c0 → w.heap.size + 1 < c0 → w.heap.size + 2 < c0 → b0 < c0 → wpAnyH Tryd.prog .any O QQ SS 7 #[true, true, true, true, true, false, false, false, false, false, true, false, false] { tmps := #[.agg (vrow 266 s.at), .agg (vrow 3 (foAt ax d p)), .agg (vrow 2 (spAt x y)), .pointer (some ⟨w.heap.size, 0, none⟩), .pointer (some ⟨w.heap.size + 1, 0, none⟩), .pointer (some ⟨w.heap.size + 2, 0, none⟩), .bool false, .pointer (some ⟨b0, 0, none⟩), .int .i64 c, .pointer (some ⟨c0, 0, none⟩), undef, .tuple #[.agg (vrow 2 (spAt q1 q2)), .int .i64 c], .agg (vrow 266 s.at), .agg (vrow 266 s.at), .agg (vrow 3 (foAt ax d p)), .agg (vrow 3 (foAt ax d p)), .agg (vrow 2 (spAt x y)), .agg (vrow 2 (spAt x y)), .tuple #[.agg (vrow 2 (spAt q1 q2)), .int .i64 c], .agg (vrow 2 (spAt q1 q2)), .int .i64 c, undef, .agg (vrow 266 s.at), .agg (vrow 266 s.at), .agg (vrow 3 (foAt ax d p)), .agg (vrow 3 (foAt ax d p)), .agg (vrow 2 (spAt x y)), undef, undef, undef, undef, undef, undef, undef, undef, undef, undef, undef, undef, undef], defers := [] } W := by
      intro W c0 hH V0 n0_0 n0_1 n0_2 n0_3
      subst hO hSS hQQ
      refine wpAnyH_ready (rs := [5]) (by kernel_rfl) (by simp) (AllReadyH.cons rfl (fun K hK => ?_) AllReadyH.nil)
      · rw [if_pos (by rfl)]
        go_simp
        go_at_call 18
        refine (HT2.out _).mono ?_
        rintro o X ⟨rfl, hb⟩
        replace hH : Below w.heap.size w X ∧ X.heap[w.heap.size]? = some (.cells (vrow 266 s.at) 31) ∧ X.heap[w.heap.size + 1]? = some (.cells (vrow 3 (foAt ax d p)) 33) ∧ X.heap[w.heap.size + 2]? = some (.cells (vrow 2 (spAt x y)) 35) ∧ X.heap[b0]? = some (.cells (vrow 2 (spAt q1 q2)) 36) := ⟨hH.1.trans (hb.mono hH.1.size), row_next hb hH.2.1, row_next hb hH.2.2.1, row_next hb hH.2.2.2.1, row_next hb hH.2.2.2.2⟩
        replace V0 := row_next hb V0
        clear hb
        refine hK.out _ _ hH (fun hH => ?_)
        clear hK K
        (try simp only [Act.put, List.setIfInBounds_toArray, List.set_cons_succ, List.set_cons_zero])
        refine wpAnyH_at 6 #[true, true, true, true, true, true, false, false, false, false, true, false, false] (by kernel_rfl) (by kernel_rfl) ?_
        exact M3_1 X c0 hH V0 n0_0 n0_1 n0_2 n0_3
    have M2_0 : ∀ (W : World), (Below w.heap.size w W ∧ W.heap[w.heap.size]? = some (.cells (vrow 266 s.at) 31) ∧ W.heap[w.heap.size + 1]? = some (.cells (vrow 3 (foAt ax d p)) 33) ∧ W.heap[w.heap.size + 2]? = some (.cells (vrow 2 (spAt x y)) 35) ∧ W.heap[b0]? = some (.cells (vrow 2 (spAt q1 q2)) 36)) → wpAnyH Tryd.prog .any O QQ SS 8 #[true, true, true, true, true, false, false, false, false, false, false, false, false] { tmps := #[.agg (vrow 266 s.at), .agg (vrow 3 (foAt ax d p)), .agg (vrow 2 (spAt x y)), .pointer (some ⟨w.heap.size, 0, none⟩), .pointer (some ⟨w.heap.size + 1, 0, none⟩), .pointer (some ⟨w.heap.size + 2, 0, none⟩), .bool false, .pointer (some ⟨b0, 0, none⟩), .int .i64 c, undef, undef, .tuple #[.agg (vrow 2 (spAt q1 q2)), .int .i64 c], .agg (vrow 266 s.at), .agg (vrow 266 s.at), .agg (vrow 3 (foAt ax d p)), .agg (vrow 3 (foAt ax d p)), .agg (vrow 2 (spAt x y)), .agg (vrow 2 (spAt x y)), .tuple #[.agg (vrow 2 (spAt q1 q2)), .int .i64 c], .agg (vrow 2 (spAt q1 q2)), .int .i64 c, undef, .agg (vrow 266 s.at), .agg (vrow 266 s.at), .agg (vrow 3 (foAt ax d p)), .agg (vrow 3 (foAt ax d p)), .agg (vrow 2 (spAt x y)), undef, undef, undef, undef, undef, undef, undef, undef, undef, undef, undef, undef, undef], defers := [] } W := by
      intro W hH
      subst hO hSS hQQ
      refine wpAnyH_ready (rs := [5, 10]) (by kernel_rfl) (by simp) (AllReadyH.cons rfl (fun K hK => ?_) (AllReadyH.cons rfl (fun K hK => ?_) AllReadyH.nil))
      · rw [if_pos (by rfl)]
        go_simp
        go_at_call 18
        refine (HT2.out _).mono ?_
        rintro o X ⟨rfl, hb⟩
        replace hH : Below w.heap.size w X ∧ X.heap[w.heap.size]? = some (.cells (vrow 266 s.at) 31) ∧ X.heap[w.heap.size + 1]? = some (.cells (vrow 3 (foAt ax d p)) 33) ∧ X.heap[w.heap.size + 2]? = some (.cells (vrow 2 (spAt x y)) 35) ∧ X.heap[b0]? = some (.cells (vrow 2 (spAt q1 q2)) 36) := ⟨hH.1.trans (hb.mono hH.1.size), row_next hb hH.2.1, row_next hb hH.2.2.1, row_next hb hH.2.2.2.1, row_next hb hH.2.2.2.2⟩
        clear hb
        refine hK.out _ _ hH (fun hH => ?_)
        clear hK K
        (try simp only [Act.put, List.setIfInBounds_toArray, List.set_cons_succ, List.set_cons_zero])
        refine wpAnyH_at 7 #[true, true, true, true, true, true, false, false, false, false, false, false, false] (by kernel_rfl) (by kernel_rfl) ?_
        exact M3_0 X  hH
      · rw [if_pos (by rfl)]
        go_simp
        try simp only [sp_vrow]
        have V := heap_at W (.cells (vrow 2 (spAt 0 0)) 36) _ rfl
        have m0 := row_lt hH.2.1
        have m1 := row_lt hH.2.2.1
        have m2 := row_lt hH.2.2.2.1
        have m3 := row_lt hH.2.2.2.2
        replace hH : Below w.heap.size w (W.alloc (.cells (vrow 2 (spAt 0 0)) 36)) ∧ (W.alloc (.cells (vrow 2 (spAt 0 0)) 36)).heap[w.heap.size]? = some (.cells (vrow 266 s.at) 31) ∧ (W.alloc (.cells (vrow 2 (spAt 0 0)) 36)).heap[w.heap.size + 1]? = some (.cells (vrow 3 (foAt ax d p)) 33) ∧ (W.alloc (.cells (vrow 2 (spAt 0 0)) 36)).heap[w.heap.size + 2]? = some (.cells (vrow 2 (spAt x y)) 35) ∧ (W.alloc (.cells (vrow 2 (spAt 0 0)) 36)).heap[b0]? = some (.cells (vrow 2 (spAt q1 q2)) 36) := ⟨hH.1.alloc hH.1.size _, heap_past _ _ _ _ m0 hH.2.1, heap_past _ _ _ _ m1 hH.2.2.1, heap_past _ _ _ _ m2 hH.2.2.2.1, heap_past _ _ _ _ m3 hH.2.2.2.2⟩
        refine hK.out _ _ hH (fun hH => ?_)
        clear hK K
        (try simp only [Act.put, List.setIfInBounds_toArray, List.set_cons_succ, List.set_cons_zero])
        refine wpAnyH_at 7 #[true, true, true, true, true, false, false, false, false, false, true, false, false] (by kernel_rfl) (by kernel_rfl) ?_
        exact M2_1 (W.alloc (.cells (vrow 2 (spAt 0 0)) 36)) W.heap.size hH V m0 m1 m2 m3
    have M1_1 : ∀ (W : World) (c0 : Nat), (Below w.heap.size w W ∧ W.heap[w.heap.size]? = some (.cells (vrow 266 s.at) 31) ∧ W.heap[w.heap.size + 1]? = some (.cells (vrow 3 (foAt ax d p)) 33) ∧ W.heap[w.heap.size + 2]? = some (.cells (vrow 2 (spAt x y)) 35) ∧ W.heap[b0]? = some (.cells (vrow 2 (spAt q1 q2)) 36)) → W.heap[c0]? = some (.cells (vrow 2 (spAt 0 0)) 36) → w.heap.size < c0 → w.heap.size + 1 < c0 → w.heap.size + 2 < c0 → b0 < c0 → wpAnyH Tryd.prog .any O QQ SS 8 #[true, true, true, false, true, false, false, false, false, false, true, false, false] { tmps := #[.agg (vrow 266 s.at), .agg (vrow 3 (foAt ax d p)), .agg (vrow 2 (spAt x y)), .pointer (some ⟨w.heap.size, 0, none⟩), .pointer (some ⟨w.heap.size + 1, 0, none⟩), .pointer (some ⟨w.heap.size + 2, 0, none⟩), .bool false, .pointer (some ⟨b0, 0, none⟩), .int .i64 c, .pointer (some ⟨c0, 0, none⟩), undef, .tuple #[.agg (vrow 2 (spAt q1 q2)), .int .i64 c], .agg (vrow 266 s.at), .agg (vrow 266 s.at), .agg (vrow 3 (foAt ax d p)), .agg (vrow 3 (foAt ax d p)), .agg (vrow 2 (spAt x y)), .agg (vrow 2 (spAt x y)), .tuple #[.agg (vrow 2 (spAt q1 q2)), .int .i64 c], .agg (vrow 2 (spAt q1 q2)), .int .i64 c, undef, .agg (vrow 266 s.at), .agg (vrow 266 s.at), .agg (vrow 3 (foAt ax d p)), undef, .agg (vrow 2 (spAt x y)), undef, undef, undef, undef, undef, undef, undef, undef, undef, undef, undef, undef, undef], defers := [] } W := by
      intro W c0 hH V0 n0_0 n0_1 n0_2 n0_3
      subst hO hSS hQQ
      refine wpAnyH_ready (rs := [3]) (by kernel_rfl) (by simp) (AllReadyH.cons rfl (fun K hK => ?_) AllReadyH.nil)
      · rw [if_pos (by rfl)]
        go_simp
        go_at_call 17
        refine (HT1.out _).mono ?_
        rintro o X ⟨rfl, hb⟩
        replace hH : Below w.heap.size w X ∧ X.heap[w.heap.size]? = some (.cells (vrow 266 s.at) 31) ∧ X.heap[w.heap.size + 1]? = some (.cells (vrow 3 (foAt ax d p)) 33) ∧ X.heap[w.heap.size + 2]? = some (.cells (vrow 2 (spAt x y)) 35) ∧ X.heap[b0]? = some (.cells (vrow 2 (spAt q1 q2)) 36) := ⟨hH.1.trans (hb.mono hH.1.size), row_next hb hH.2.1, row_next hb hH.2.2.1, row_next hb hH.2.2.2.1, row_next hb hH.2.2.2.2⟩
        replace V0 := row_next hb V0
        clear hb
        refine hK.out _ _ hH (fun hH => ?_)
        clear hK K
        (try simp only [Act.put, List.setIfInBounds_toArray, List.set_cons_succ, List.set_cons_zero])
        refine wpAnyH_at 7 #[true, true, true, true, true, false, false, false, false, false, true, false, false] (by kernel_rfl) (by kernel_rfl) ?_
        exact M2_1 X c0 hH V0 n0_0 n0_1 n0_2 n0_3
    have M1_0 : ∀ (W : World), (Below w.heap.size w W ∧ W.heap[w.heap.size]? = some (.cells (vrow 266 s.at) 31) ∧ W.heap[w.heap.size + 1]? = some (.cells (vrow 3 (foAt ax d p)) 33) ∧ W.heap[w.heap.size + 2]? = some (.cells (vrow 2 (spAt x y)) 35) ∧ W.heap[b0]? = some (.cells (vrow 2 (spAt q1 q2)) 36)) → wpAnyH Tryd.prog .any O QQ SS 9 #[true, true, true, false, true, false, false, false, false, false, false, false, false] { tmps := #[.agg (vrow 266 s.at), .agg (vrow 3 (foAt ax d p)), .agg (vrow 2 (spAt x y)), .pointer (some ⟨w.heap.size, 0, none⟩), .pointer (some ⟨w.heap.size + 1, 0, none⟩), .pointer (some ⟨w.heap.size + 2, 0, none⟩), .bool false, .pointer (some ⟨b0, 0, none⟩), .int .i64 c, undef, undef, .tuple #[.agg (vrow 2 (spAt q1 q2)), .int .i64 c], .agg (vrow 266 s.at), .agg (vrow 266 s.at), .agg (vrow 3 (foAt ax d p)), .agg (vrow 3 (foAt ax d p)), .agg (vrow 2 (spAt x y)), .agg (vrow 2 (spAt x y)), .tuple #[.agg (vrow 2 (spAt q1 q2)), .int .i64 c], .agg (vrow 2 (spAt q1 q2)), .int .i64 c, undef, .agg (vrow 266 s.at), .agg (vrow 266 s.at), .agg (vrow 3 (foAt ax d p)), undef, .agg (vrow 2 (spAt x y)), undef, undef, undef, undef, undef, undef, undef, undef, undef, undef, undef, undef, undef], defers := [] } W := by
      intro W hH
      subst hO hSS hQQ
      refine wpAnyH_ready (rs := [3, 10]) (by kernel_rfl) (by simp) (AllReadyH.cons rfl (fun K hK => ?_) (AllReadyH.cons rfl (fun K hK => ?_) AllReadyH.nil))
      · rw [if_pos (by rfl)]
        go_simp
        go_at_call 17
        refine (HT1.out _).mono ?_
        rintro o X ⟨rfl, hb⟩
        replace hH : Below w.heap.size w X ∧ X.heap[w.heap.size]? = some (.cells (vrow 266 s.at) 31) ∧ X.heap[w.heap.size + 1]? = some (.cells (vrow 3 (foAt ax d p)) 33) ∧ X.heap[w.heap.size + 2]? = some (.cells (vrow 2 (spAt x y)) 35) ∧ X.heap[b0]? = some (.cells (vrow 2 (spAt q1 q2)) 36) := ⟨hH.1.trans (hb.mono hH.1.size), row_next hb hH.2.1, row_next hb hH.2.2.1, row_next hb hH.2.2.2.1, row_next hb hH.2.2.2.2⟩
        clear hb
        refine hK.out _ _ hH (fun hH => ?_)
        clear hK K
        (try simp only [Act.put, List.setIfInBounds_toArray, List.set_cons_succ, List.set_cons_zero])
        refine wpAnyH_at 8 #[true, true, true, true, true, false, false, false, false, false, false, false, false] (by kernel_rfl) (by kernel_rfl) ?_
        exact M2_0 X  hH
      · rw [if_pos (by rfl)]
        go_simp
        try simp only [sp_vrow]
        have V := heap_at W (.cells (vrow 2 (spAt 0 0)) 36) _ rfl
        have m0 := row_lt hH.2.1
        have m1 := row_lt hH.2.2.1
        have m2 := row_lt hH.2.2.2.1
        have m3 := row_lt hH.2.2.2.2
        replace hH : Below w.heap.size w (W.alloc (.cells (vrow 2 (spAt 0 0)) 36)) ∧ (W.alloc (.cells (vrow 2 (spAt 0 0)) 36)).heap[w.heap.size]? = some (.cells (vrow 266 s.at) 31) ∧ (W.alloc (.cells (vrow 2 (spAt 0 0)) 36)).heap[w.heap.size + 1]? = some (.cells (vrow 3 (foAt ax d p)) 33) ∧ (W.alloc (.cells (vrow 2 (spAt 0 0)) 36)).heap[w.heap.size + 2]? = some (.cells (vrow 2 (spAt x y)) 35) ∧ (W.alloc (.cells (vrow 2 (spAt 0 0)) 36)).heap[b0]? = some (.cells (vrow 2 (spAt q1 q2)) 36) := ⟨hH.1.alloc hH.1.size _, heap_past _ _ _ _ m0 hH.2.1, heap_past _ _ _ _ m1 hH.2.2.1, heap_past _ _ _ _ m2 hH.2.2.2.1, heap_past _ _ _ _ m3 hH.2.2.2.2⟩
        refine hK.out _ _ hH (fun hH => ?_)
        clear hK K
        (try simp only [Act.put, List.setIfInBounds_toArray, List.set_cons_succ, List.set_cons_zero])
        refine wpAnyH_at 8 #[true, true, true, false, true, false, false, false, false, false, true, false, false] (by kernel_rfl) (by kernel_rfl) ?_
        exact M1_1 (W.alloc (.cells (vrow 2 (spAt 0 0)) 36)) W.heap.size hH V m0 m1 m2 m3
    have M0_1 : ∀ (W : World) (c0 : Nat), (Below w.heap.size w W ∧ W.heap[w.heap.size]? = some (.cells (vrow 266 s.at) 31) ∧ W.heap[w.heap.size + 1]? = some (.cells (vrow 3 (foAt ax d p)) 33) ∧ W.heap[w.heap.size + 2]? = some (.cells (vrow 2 (spAt x y)) 35) ∧ W.heap[b0]? = some (.cells (vrow 2 (spAt q1 q2)) 36)) → W.heap[c0]? = some (.cells (vrow 2 (spAt 0 0)) 36) → w.heap.size < c0 → w.heap.size + 1 < c0 → w.heap.size + 2 < c0 → b0 < c0 → wpAnyH Tryd.prog .any O QQ SS 9 #[true, false, true, false, true, false, false, false, false, false, true, false, false] { tmps := #[.agg (vrow 266 s.at), .agg (vrow 3 (foAt ax d p)), .agg (vrow 2 (spAt x y)), .pointer (some ⟨w.heap.size, 0, none⟩), .pointer (some ⟨w.heap.size + 1, 0, none⟩), .pointer (some ⟨w.heap.size + 2, 0, none⟩), .bool false, .pointer (some ⟨b0, 0, none⟩), .int .i64 c, .pointer (some ⟨c0, 0, none⟩), undef, .tuple #[.agg (vrow 2 (spAt q1 q2)), .int .i64 c], .agg (vrow 266 s.at), .agg (vrow 266 s.at), .agg (vrow 3 (foAt ax d p)), .agg (vrow 3 (foAt ax d p)), .agg (vrow 2 (spAt x y)), .agg (vrow 2 (spAt x y)), .tuple #[.agg (vrow 2 (spAt q1 q2)), .int .i64 c], .agg (vrow 2 (spAt q1 q2)), .int .i64 c, undef, .agg (vrow 266 s.at), undef, .agg (vrow 3 (foAt ax d p)), undef, .agg (vrow 2 (spAt x y)), undef, undef, undef, undef, undef, undef, undef, undef, undef, undef, undef, undef, undef], defers := [] } W := by
      intro W c0 hH V0 n0_0 n0_1 n0_2 n0_3
      subst hO hSS hQQ
      refine wpAnyH_ready (rs := [1]) (by kernel_rfl) (by simp) (AllReadyH.cons rfl (fun K hK => ?_) AllReadyH.nil)
      · rw [if_pos (by rfl)]
        go_simp
        go_at_call 16
        refine (HT0.out _).mono ?_
        rintro o X ⟨rfl, hb⟩
        replace hH : Below w.heap.size w X ∧ X.heap[w.heap.size]? = some (.cells (vrow 266 s.at) 31) ∧ X.heap[w.heap.size + 1]? = some (.cells (vrow 3 (foAt ax d p)) 33) ∧ X.heap[w.heap.size + 2]? = some (.cells (vrow 2 (spAt x y)) 35) ∧ X.heap[b0]? = some (.cells (vrow 2 (spAt q1 q2)) 36) := ⟨hH.1.trans (hb.mono hH.1.size), row_next hb hH.2.1, row_next hb hH.2.2.1, row_next hb hH.2.2.2.1, row_next hb hH.2.2.2.2⟩
        replace V0 := row_next hb V0
        clear hb
        refine hK.out _ _ hH (fun hH => ?_)
        clear hK K
        (try simp only [Act.put, List.setIfInBounds_toArray, List.set_cons_succ, List.set_cons_zero])
        refine wpAnyH_at 8 #[true, true, true, false, true, false, false, false, false, false, true, false, false] (by kernel_rfl) (by kernel_rfl) ?_
        exact M1_1 X c0 hH V0 n0_0 n0_1 n0_2 n0_3
    have M0_0 : ∀ (W : World), (Below w.heap.size w W ∧ W.heap[w.heap.size]? = some (.cells (vrow 266 s.at) 31) ∧ W.heap[w.heap.size + 1]? = some (.cells (vrow 3 (foAt ax d p)) 33) ∧ W.heap[w.heap.size + 2]? = some (.cells (vrow 2 (spAt x y)) 35) ∧ W.heap[b0]? = some (.cells (vrow 2 (spAt q1 q2)) 36)) → wpAnyH Tryd.prog .any O QQ SS 10 #[true, false, true, false, true, false, false, false, false, false, false, false, false] { tmps := #[.agg (vrow 266 s.at), .agg (vrow 3 (foAt ax d p)), .agg (vrow 2 (spAt x y)), .pointer (some ⟨w.heap.size, 0, none⟩), .pointer (some ⟨w.heap.size + 1, 0, none⟩), .pointer (some ⟨w.heap.size + 2, 0, none⟩), .bool false, .pointer (some ⟨b0, 0, none⟩), .int .i64 c, undef, undef, .tuple #[.agg (vrow 2 (spAt q1 q2)), .int .i64 c], .agg (vrow 266 s.at), .agg (vrow 266 s.at), .agg (vrow 3 (foAt ax d p)), .agg (vrow 3 (foAt ax d p)), .agg (vrow 2 (spAt x y)), .agg (vrow 2 (spAt x y)), .tuple #[.agg (vrow 2 (spAt q1 q2)), .int .i64 c], .agg (vrow 2 (spAt q1 q2)), .int .i64 c, undef, .agg (vrow 266 s.at), undef, .agg (vrow 3 (foAt ax d p)), undef, .agg (vrow 2 (spAt x y)), undef, undef, undef, undef, undef, undef, undef, undef, undef, undef, undef, undef, undef], defers := [] } W := by
      intro W hH
      subst hO hSS hQQ
      refine wpAnyH_ready (rs := [1, 10]) (by kernel_rfl) (by simp) (AllReadyH.cons rfl (fun K hK => ?_) (AllReadyH.cons rfl (fun K hK => ?_) AllReadyH.nil))
      · rw [if_pos (by rfl)]
        go_simp
        go_at_call 16
        refine (HT0.out _).mono ?_
        rintro o X ⟨rfl, hb⟩
        replace hH : Below w.heap.size w X ∧ X.heap[w.heap.size]? = some (.cells (vrow 266 s.at) 31) ∧ X.heap[w.heap.size + 1]? = some (.cells (vrow 3 (foAt ax d p)) 33) ∧ X.heap[w.heap.size + 2]? = some (.cells (vrow 2 (spAt x y)) 35) ∧ X.heap[b0]? = some (.cells (vrow 2 (spAt q1 q2)) 36) := ⟨hH.1.trans (hb.mono hH.1.size), row_next hb hH.2.1, row_next hb hH.2.2.1, row_next hb hH.2.2.2.1, row_next hb hH.2.2.2.2⟩
        clear hb
        refine hK.out _ _ hH (fun hH => ?_)
        clear hK K
        (try simp only [Act.put, List.setIfInBounds_toArray, List.set_cons_succ, List.set_cons_zero])
        refine wpAnyH_at 9 #[true, true, true, false, true, false, false, false, false, false, false, false, false] (by kernel_rfl) (by kernel_rfl) ?_
        exact M1_0 X  hH
      · rw [if_pos (by rfl)]
        go_simp
        try simp only [sp_vrow]
        have V := heap_at W (.cells (vrow 2 (spAt 0 0)) 36) _ rfl
        have m0 := row_lt hH.2.1
        have m1 := row_lt hH.2.2.1
        have m2 := row_lt hH.2.2.2.1
        have m3 := row_lt hH.2.2.2.2
        replace hH : Below w.heap.size w (W.alloc (.cells (vrow 2 (spAt 0 0)) 36)) ∧ (W.alloc (.cells (vrow 2 (spAt 0 0)) 36)).heap[w.heap.size]? = some (.cells (vrow 266 s.at) 31) ∧ (W.alloc (.cells (vrow 2 (spAt 0 0)) 36)).heap[w.heap.size + 1]? = some (.cells (vrow 3 (foAt ax d p)) 33) ∧ (W.alloc (.cells (vrow 2 (spAt 0 0)) 36)).heap[w.heap.size + 2]? = some (.cells (vrow 2 (spAt x y)) 35) ∧ (W.alloc (.cells (vrow 2 (spAt 0 0)) 36)).heap[b0]? = some (.cells (vrow 2 (spAt q1 q2)) 36) := ⟨hH.1.alloc hH.1.size _, heap_past _ _ _ _ m0 hH.2.1, heap_past _ _ _ _ m1 hH.2.2.1, heap_past _ _ _ _ m2 hH.2.2.2.1, heap_past _ _ _ _ m3 hH.2.2.2.2⟩
        refine hK.out _ _ hH (fun hH => ?_)
        clear hK K
        (try simp only [Act.put, List.setIfInBounds_toArray, List.set_cons_succ, List.set_cons_zero])
        refine wpAnyH_at 9 #[true, false, true, false, true, false, false, false, false, false, true, false, false] (by kernel_rfl) (by kernel_rfl) ?_
        exact M0_1 (W.alloc (.cells (vrow 2 (spAt 0 0)) 36)) W.heap.size hH V m0 m1 m2 m3
    subst hO hSS hQQ
    refine wp_region_held_drew (S := fun W' => Below w.heap.size w W' ∧ W'.heap[w.heap.size]? = some (.cells (vrow 266 s.at) 31) ∧ W'.heap[w.heap.size + 1]? = some (.cells (vrow 3 (foAt ax d p)) 33) ∧ W'.heap[w.heap.size + 2]? = some (.cells (vrow 2 (spAt x y)) 35) ∧ W'.heap[b0]? = some (.cells (vrow 2 (spAt q1 q2)) 36)) (by kernel_rfl) ⟨hB.out.drew, P0.out, P1.out, P2.out, U0.out⟩ (fun hH => ?_)
    generalize World.drew _ = W at hH ⊢
    refine wpAnyH_take (i := 0) (v := (.agg (vrow 266 s.at))) rfl (by kernel_rfl) (by kernel_rfl) (by kernel_rfl) (fun _ _ _ h => by cases h.1) (yields_row (by rfl) 31 _ rfl (w.heap.size) rfl 266 s.at 31 _ Tryd.underlying31 rfl size_lsheet (fun _ h => h.2.1)) hH ?_
    (try simp only [Act.put, List.setIfInBounds_toArray, List.set_cons_succ, List.set_cons_zero])
    refine wpAnyH_take (i := 2) (v := (.agg (vrow 3 (foAt ax d p)))) rfl (by kernel_rfl) (by kernel_rfl) (by kernel_rfl) (fun _ _ _ h => by cases h.1) (yields_row (by rfl) 33 _ rfl (w.heap.size + 1) rfl 3 (foAt ax d p) 33 _ Tryd.underlying33 rfl size_lfold (fun _ h => h.2.2.1)) hH ?_
    (try simp only [Act.put, List.setIfInBounds_toArray, List.set_cons_succ, List.set_cons_zero])
    refine wpAnyH_take (i := 4) (v := (.agg (vrow 2 (spAt x y)))) rfl (by kernel_rfl) (by kernel_rfl) (by kernel_rfl) (fun _ _ _ h => by cases h.1) (yields_row (by rfl) 35 _ rfl (w.heap.size + 2) rfl 2 (spAt x y) 35 _ Tryd.underlying35 rfl size_lspot (fun _ h => h.2.2.2.1)) hH ?_
    (try simp only [Act.put, List.setIfInBounds_toArray, List.set_cons_succ, List.set_cons_zero])
    refine wpAnyH_at 10 #[true, false, true, false, true, false, false, false, false, false, false, false, false] (by kernel_rfl) (by kernel_rfl) ?_
    exact M0_0 W hH
  rintro e2 a2 W2 ⟨rfl, c0, rfl, ⟨hB, P0, P1, P2, U0⟩, V0⟩
  replace hB := Go.Lib.hid hB; replace P0 := Go.Lib.hid P0; replace P1 := Go.Lib.hid P1; replace P2 := Go.Lib.hid P2; replace U0 := Go.Lib.hid U0; replace V0 := Go.Lib.hid V0
  go_wp2_with (first
    | go_skip
    | ((with_reducible refine wlAt 31 rfl ?_); refine wpList_loadall rfl 36 (.tmp 9) rfl _ rfl 2 (spAt q1 q2) 36 _ Tryd.underlying36 rfl size_spot V0.out ?_)
    | ((with_reducible refine wlAt 32 rfl ?_); refine wpList_loadall rfl 36 (.tmp 7) rfl _ rfl 2 (spAt q1 q2) 36 _ Tryd.underlying36 rfl size_spot U0.out ?_)
    | (go_at_call 20; (first | (with_reducible refine (eqSpot_any q1 q2 _).mono ?_)); rintro o w3 ⟨rfl, hb⟩; (try (replace U0 := Go.Lib.hid (row_next hb U0.out))); (try (replace V0 := Go.Lib.hid (row_next hb V0.out))); replace hB := Go.Lib.hid (below_next hB.out hb); clear hb))
  go_ret
  exact ⟨rfl, hB.out⟩
end Go.Proofs.YthbhckalkkameaaDoor
