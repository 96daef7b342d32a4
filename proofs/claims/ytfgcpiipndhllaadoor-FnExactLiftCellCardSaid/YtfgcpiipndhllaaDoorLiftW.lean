import Derived.Deep.RegionHeld3
import Derived.Test.YtfgcpiipndhllaaDoorG1
import Derived.Test.YtfgcpiipndhllaaDoorBrush
import Derived.Test.YtfgcpiipndhllaaDoorAsked
import Derived.Test.YtfgcpiipndhllaaDoorEqSheet
import Derived.Test.YtfgcpiipndhllaaDoorErr
namespace Go.Proofs.YtfgcpiipndhllaaDoor
open Go.RowKit
set_option maxRecDepth 100000
set_option linter.unusedVariables false
set_option linter.unusedSimpArgs false
theorem rw_br : (Tryd.prog.underlying 49).map (·.isRow) = some true := by kernel_rfl
set_option maxHeartbeats 8000000 in
theorem lift_walk (s : Sh) (b : Br) (x y : Int) (k : Int) (r : Sh) (q : Br) (c : Int) (e : ErrE) (w : World) (hE : Errs e w)
    (hS : ∀ w, Calls Tryd.prog 22 #[.agg (vrow 266 s.at), .agg (vrow 5 b.at), .agg (vrow 2 (spAt x y)), .int .i64 k] w fun e w' => e = .returned (.tuple #[.agg (vrow 266 r.at), .agg (vrow 5 q.at), .int .i64 c]) ∧ Below w.heap.size w w')
    (hI : ∀ w, Errs e w → Calls Tryd.prog 25 #[.agg (vrow 266 s.at), .agg (vrow 5 b.at), .agg (vrow 2 (spAt x y)), .int .i64 k] w fun e w' => e = .returned (.tuple #[.agg (vrow 266 r.at), .agg (vrow 5 q.at), .int .i64 c]) ∧ Below w.heap.size w w') : Calls Tryd.prog 5 #[.agg (vrow 266 s.at), .agg (vrow 5 b.at), .agg (vrow 2 (spAt x y)), .int .i64 k] w fun o w' => o = .returned (.bool true) ∧ Below w.heap.size w w' := by
  have zz_sheet := zero_sheet
  have zz_brush := zero_br
  have zz_spot := zero_spot
  have HT0 := Go.Lib.hid (fun w => toSheet_any s w)
  have HT1 := Go.Lib.hid (fun w => toBrush_any b w)
  have HT2 := Go.Lib.hid (fun w => toSpot_any x y w)
  have HS := Go.Lib.hid hS; have HI := Go.Lib.hid hI
  clear hS hI
  have hB : Hid (Below w.heap.size w (((w.alloc (.cells (vrow 266 s.at) 31)).alloc (.cells (vrow 5 b.at) 47)).alloc (.cells (vrow 2 (spAt x y)) 48))) := ((((Below.refl w.heap.size w).alloc (by simp <;> omega) _).alloc (by simp <;> omega) _).alloc (by simp <;> omega) _)
  have P0 : Hid ((((w.alloc (.cells (vrow 266 s.at) 31)).alloc (.cells (vrow 5 b.at) 47)).alloc (.cells (vrow 2 (spAt x y)) 48)).heap[w.heap.size]? = some (.cells (vrow 266 s.at) 31)) := heap_past _ _ _ _ (by first | omega | (simp <;> omega)) (heap_past _ _ _ _ (by first | omega | (simp <;> omega)) (heap_at _ _ _ (by simp)))
  have P1 : Hid ((((w.alloc (.cells (vrow 266 s.at) 31)).alloc (.cells (vrow 5 b.at) 47)).alloc (.cells (vrow 2 (spAt x y)) 48)).heap[w.heap.size + 1]? = some (.cells (vrow 5 b.at) 47)) := heap_past _ _ _ _ (by first | omega | (simp <;> omega)) (heap_at _ _ _ (by simp))
  have P2 : Hid ((((w.alloc (.cells (vrow 266 s.at) 31)).alloc (.cells (vrow 5 b.at) 47)).alloc (.cells (vrow 2 (spAt x y)) 48)).heap[w.heap.size + 2]? = some (.cells (vrow 2 (spAt x y)) 48)) := heap_at _ _ _ (by simp)
  go_enter Tryd.func5, Tryd.ntmps5
  go_wp2
  refine Code.wp_mono (Q := fun e a' W' => e = .normal ∧ ∃ b0 b1, a' = { tmps := #[.agg (vrow 266 s.at), .agg (vrow 5 b.at), .agg (vrow 2 (spAt x y)), .int .i64 k, .pointer (some ⟨w.heap.size, 0, none⟩), .pointer (some ⟨w.heap.size + 1, 0, none⟩), .pointer (some ⟨w.heap.size + 2, 0, none⟩), undef, .bool false, .pointer (some ⟨b0, 0, none⟩), .pointer (some ⟨b1, 0, none⟩), .int .i64 c, undef, undef, undef, .tuple #[.agg (vrow 266 r.at), .agg (vrow 5 q.at), .int .i64 c], .agg (vrow 266 s.at), .agg (vrow 266 s.at), .agg (vrow 5 b.at), .agg (vrow 5 b.at), .agg (vrow 2 (spAt x y)), .agg (vrow 2 (spAt x y)), .int .i64 k, .tuple #[.agg (vrow 266 r.at), .agg (vrow 5 q.at), .int .i64 c], .agg (vrow 266 r.at), .agg (vrow 5 q.at), .int .i64 c, undef, undef, undef, undef, undef, undef, undef, undef, undef, undef, undef, undef, undef, undef, undef, undef, undef, undef, undef, undef, undef, undef, undef, undef, undef, undef, undef], defers := [] } ∧ (Below w.heap.size w W' ∧ W'.heap[w.heap.size]? = some (.cells (vrow 266 s.at) 31) ∧ W'.heap[w.heap.size + 1]? = some (.cells (vrow 5 b.at) 47) ∧ W'.heap[w.heap.size + 2]? = some (.cells (vrow 2 (spAt x y)) 48)) ∧ W'.heap[b0]? = some (.cells (vrow 266 r.at) 36) ∧ W'.heap[b1]? = some (.cells (vrow 5 q.at) 49)) ?_ ?_
  rotate_left
  · refine region_gen (fun O hO => ?_)
    obtain ⟨SS, hSS⟩ : ∃ zS : World → Prop, zS = (fun W' => Below w.heap.size w W' ∧ W'.heap[w.heap.size]? = some (.cells (vrow 266 s.at) 31) ∧ W'.heap[w.heap.size + 1]? = some (.cells (vrow 5 b.at) 47) ∧ W'.heap[w.heap.size + 2]? = some (.cells (vrow 2 (spAt x y)) 48)) := ⟨_, rfl⟩
    obtain ⟨QQ, hQQ⟩ : ∃ zQ : Exit → Act → World → Prop, zQ = (fun e a' W' => e = .normal ∧ ∃ b0 b1, a' = { tmps := #[.agg (vrow 266 s.at), .agg (vrow 5 b.at), .agg (vrow 2 (spAt x y)), .int .i64 k, .pointer (some ⟨w.heap.size, 0, none⟩), .pointer (some ⟨w.heap.size + 1, 0, none⟩), .pointer (some ⟨w.heap.size + 2, 0, none⟩), undef, .bool false, .pointer (some ⟨b0, 0, none⟩), .pointer (some ⟨b1, 0, none⟩), .int .i64 c, undef, undef, undef, .tuple #[.agg (vrow 266 r.at), .agg (vrow 5 q.at), .int .i64 c], .agg (vrow 266 s.at), .agg (vrow 266 s.at), .agg (vrow 5 b.at), .agg (vrow 5 b.at), .agg (vrow 2 (spAt x y)), .agg (vrow 2 (spAt x y)), .int .i64 k, .tuple #[.agg (vrow 266 r.at), .agg (vrow 5 q.at), .int .i64 c], .agg (vrow 266 r.at), .agg (vrow 5 q.at), .int .i64 c, undef, undef, undef, undef, undef, undef, undef, undef, undef, undef, undef, undef, undef, undef, undef, undef, undef, undef, undef, undef, undef, undef, undef, undef, undef, undef, undef], defers := [] } ∧ (Below w.heap.size w W' ∧ W'.heap[w.heap.size]? = some (.cells (vrow 266 s.at) 31) ∧ W'.heap[w.heap.size + 1]? = some (.cells (vrow 5 b.at) 47) ∧ W'.heap[w.heap.size + 2]? = some (.cells (vrow 2 (spAt x y)) 48)) ∧ W'.heap[b0]? = some (.cells (vrow 266 r.at) 36) ∧ W'.heap[b1]? = some (.cells (vrow 5 q.at) 49)) := ⟨_, rfl⟩
    rw [← hQQ]
    have N4_11 : ∀ (W : World) (b0 : Nat) (b1 : Nat), (Below w.heap.size w W ∧ W.heap[w.heap.size]? = some (.cells (vrow 266 s.at) 31) ∧ W.heap[w.heap.size + 1]? = some (.cells (vrow 5 b.at) 47) ∧ W.heap[w.heap.size + 2]? = some (.cells (vrow 2 (spAt x y)) 48)) → W.heap[b0]? = some (.cells (vrow 266 Sh.zero.at) 36) → w.heap.size < b0 → w.heap.size + 1 < b0 → w.heap.size + 2 < b0 → W.heap[b1]? = some (.cells (vrow 5 Br.zero.at) 49) → w.heap.size < b1 → w.heap.size + 1 < b1 → w.heap.size + 2 < b1 → b0 ≠ b1 → wpAnyH Tryd.prog .any O QQ SS 3 #[true, true, true, true, true, true, true, true, true, true, true, true, true, true, false, false, false] { tmps := #[.agg (vrow 266 s.at), .agg (vrow 5 b.at), .agg (vrow 2 (spAt x y)), .int .i64 k, .pointer (some ⟨w.heap.size, 0, none⟩), .pointer (some ⟨w.heap.size + 1, 0, none⟩), .pointer (some ⟨w.heap.size + 2, 0, none⟩), undef, .bool false, .pointer (some ⟨b0, 0, none⟩), .pointer (some ⟨b1, 0, none⟩), undef, undef, undef, undef, .tuple #[.agg (vrow 266 r.at), .agg (vrow 5 q.at), .int .i64 c], .agg (vrow 266 s.at), .agg (vrow 266 s.at), .agg (vrow 5 b.at), .agg (vrow 5 b.at), .agg (vrow 2 (spAt x y)), .agg (vrow 2 (spAt x y)), .int .i64 k, .tuple #[.agg (vrow 266 r.at), .agg (vrow 5 q.at), .int .i64 c], .agg (vrow 266 r.at), .agg (vrow 5 q.at), .int .i64 c, undef, undef, undef, undef, undef, undef, undef, undef, undef, undef, undef, undef, undef, undef, undef, undef, undef, undef, undef, undef, undef, undef, undef, undef, undef, undef, undef], defers := [] } W := by
      intro W b0 b1 hH V0 n0_0 n0_1 n0_2 V1 n1_0 n1_1 n1_2 d0_1
      subst hO hSS hQQ
      refine wpAnyH_ready (rs := [14]) (by kernel_rfl) (by simp) (AllReadyH.cons rfl (fun K hK => ?_) AllReadyH.nil)
      rw [if_pos (by rfl)]
      unfold Oper.wp
      rw [run_storemid 36 (.tmp 9) (.tmp 24) rfl b0 0 rfl 266 266 Sh.zero.at r.at rfl 36 size_sheet V0 (by omega) (fun i _ => Sh.one _ i), vrow_over_all, Oper.upon_skip]
      replace V0 := row_set V0 (vrow 266 r.at)
      replace V1 := row_set' (show b1 ≠ b0 by omega) V1 (vrow 266 r.at)
      have hH2 : Below w.heap.size w (W.setRow b0 (vrow 266 r.at)) ∧ (W.setRow b0 (vrow 266 r.at)).heap[w.heap.size]? = some (.cells (vrow 266 s.at) 31) ∧ (W.setRow b0 (vrow 266 r.at)).heap[w.heap.size + 1]? = some (.cells (vrow 5 b.at) 47) ∧ (W.setRow b0 (vrow 266 r.at)).heap[w.heap.size + 2]? = some (.cells (vrow 2 (spAt x y)) 48) := ⟨Below_setRow hH.1 (by omega) _, row_set' (by omega) hH.2.1 _, row_set' (by omega) hH.2.2.1 _, row_set' (by omega) hH.2.2.2 _⟩
      refine hK.out _ _ hH2 (fun hH => ?_)
      clear hK K hH2
      (try simp only [Act.put, List.setIfInBounds_toArray, List.set_cons_succ, List.set_cons_zero])
      generalize (W.setRow b0 (vrow 266 r.at)) = Y0 at hH V0 V1 ⊢
      refine wpAnyH_ready (rs := [15]) (by kernel_rfl) (by simp) (AllReadyH.cons rfl (fun K hK => ?_) AllReadyH.nil)
      rw [if_pos (by rfl)]
      unfold Oper.wp
      rw [run_storemid 49 (.tmp 10) (.tmp 25) rfl b1 0 rfl 5 5 Br.zero.at q.at rfl 49 size_br V1 (by omega) (fun i _ => Br.one _ i), vrow_over_all, Oper.upon_skip]
      replace V0 := row_set' (show b0 ≠ b1 by omega) V0 (vrow 5 q.at)
      replace V1 := row_set V1 (vrow 5 q.at)
      have hH2 : Below w.heap.size w (Y0.setRow b1 (vrow 5 q.at)) ∧ (Y0.setRow b1 (vrow 5 q.at)).heap[w.heap.size]? = some (.cells (vrow 266 s.at) 31) ∧ (Y0.setRow b1 (vrow 5 q.at)).heap[w.heap.size + 1]? = some (.cells (vrow 5 b.at) 47) ∧ (Y0.setRow b1 (vrow 5 q.at)).heap[w.heap.size + 2]? = some (.cells (vrow 2 (spAt x y)) 48) := ⟨Below_setRow hH.1 (by omega) _, row_set' (by omega) hH.2.1 _, row_set' (by omega) hH.2.2.1 _, row_set' (by omega) hH.2.2.2 _⟩
      refine hK.out _ _ hH2 (fun hH => ?_)
      clear hK K hH2
      (try simp only [Act.put, List.setIfInBounds_toArray, List.set_cons_succ, List.set_cons_zero])
      generalize (Y0.setRow b1 (vrow 5 q.at)) = Y1 at hH V0 V1 ⊢
      refine wpAnyH_take (i := 16) (v := (.int .i64 c)) rfl (by kernel_rfl) (by kernel_rfl) (by kernel_rfl) (fun _ _ _ h => by cases h.1) (.inl ⟨by rfl, fun w _ => by go_simp⟩) hH ?_
      (try simp only [Act.put, List.setIfInBounds_toArray, List.set_cons_succ, List.set_cons_zero])
      refine wpAnyH_done (by kernel_rfl) ?_ _
      exact ⟨rfl, b0, b1, rfl, hH, V0, V1⟩
    have N4_10 : ∀ (W : World) (b0 : Nat), (Below w.heap.size w W ∧ W.heap[w.heap.size]? = some (.cells (vrow 266 s.at) 31) ∧ W.heap[w.heap.size + 1]? = some (.cells (vrow 5 b.at) 47) ∧ W.heap[w.heap.size + 2]? = some (.cells (vrow 2 (spAt x y)) 48)) → W.heap[b0]? = some (.cells (vrow 266 Sh.zero.at) 36) → w.heap.size < b0 → w.heap.size + 1 < b0 → w.heap.size + 2 < b0 → wpAnyH Tryd.prog .any O QQ SS 4 #[true, true, true, true, true, true, true, true, true, true, true, true, true, false, false, false, false] { tmps := #[.agg (vrow 266 s.at), .agg (vrow 5 b.at), .agg (vrow 2 (spAt x y)), .int .i64 k, .pointer (some ⟨w.heap.size, 0, none⟩), .pointer (some ⟨w.heap.size + 1, 0, none⟩), .pointer (some ⟨w.heap.size + 2, 0, none⟩), undef, .bool false, .pointer (some ⟨b0, 0, none⟩), undef, undef, undef, undef, undef, .tuple #[.agg (vrow 266 r.at), .agg (vrow 5 q.at), .int .i64 c], .agg (vrow 266 s.at), .agg (vrow 266 s.at), .agg (vrow 5 b.at), .agg (vrow 5 b.at), .agg (vrow 2 (spAt x y)), .agg (vrow 2 (spAt x y)), .int .i64 k, .tuple #[.agg (vrow 266 r.at), .agg (vrow 5 q.at), .int .i64 c], .agg (vrow 266 r.at), .agg (vrow 5 q.at), .int .i64 c, undef, undef, undef, undef, undef, undef, undef, undef, undef, undef, undef, undef, undef, undef, undef, undef, undef, undef, undef, undef, undef, undef, undef, undef, undef, undef, undef], defers := [] } W := by
      intro W b0 hH V0 n0_0 n0_1 n0_2
      subst hO hSS hQQ
      refine wpAnyH_ready (rs := [13]) (by kernel_rfl) (by simp) (AllReadyH.cons rfl (fun K hK => ?_) AllReadyH.nil)
      · rw [if_pos (by rfl)]
        go_simp
        try simp only [sp_vrow]
        have V := heap_at W (.cells (vrow 5 Br.zero.at) 49) _ rfl
        have m0 := row_lt hH.2.1
        have m1 := row_lt hH.2.2.1
        have m2 := row_lt hH.2.2.2
        have mm0 := row_lt V0
        replace V0 := heap_past _ (.cells (vrow 5 Br.zero.at) 49) _ _ mm0 V0
        replace hH : Below w.heap.size w (W.alloc (.cells (vrow 5 Br.zero.at) 49)) ∧ (W.alloc (.cells (vrow 5 Br.zero.at) 49)).heap[w.heap.size]? = some (.cells (vrow 266 s.at) 31) ∧ (W.alloc (.cells (vrow 5 Br.zero.at) 49)).heap[w.heap.size + 1]? = some (.cells (vrow 5 b.at) 47) ∧ (W.alloc (.cells (vrow 5 Br.zero.at) 49)).heap[w.heap.size + 2]? = some (.cells (vrow 2 (spAt x y)) 48) := ⟨hH.1.alloc hH.1.size _, heap_past _ _ _ _ m0 hH.2.1, heap_past _ _ _ _ m1 hH.2.2.1, heap_past _ _ _ _ m2 hH.2.2.2⟩
        refine hK.out _ _ hH (fun hH => ?_)
        clear hK K
        (try simp only [Act.put, List.setIfInBounds_toArray, List.set_cons_succ, List.set_cons_zero])
        refine wpAnyH_at 3 #[true, true, true, true, true, true, true, true, true, true, true, true, true, true, false, false, false] (by kernel_rfl) (by kernel_rfl) ?_
        exact N4_11 (W.alloc (.cells (vrow 5 Br.zero.at) 49)) b0 W.heap.size hH V0 n0_0 n0_1 n0_2 V m0 m1 m2 (by omega)
    have N4_01 : ∀ (W : World) (b1 : Nat), (Below w.heap.size w W ∧ W.heap[w.heap.size]? = some (.cells (vrow 266 s.at) 31) ∧ W.heap[w.heap.size + 1]? = some (.cells (vrow 5 b.at) 47) ∧ W.heap[w.heap.size + 2]? = some (.cells (vrow 2 (spAt x y)) 48)) → W.heap[b1]? = some (.cells (vrow 5 Br.zero.at) 49) → w.heap.size < b1 → w.heap.size + 1 < b1 → w.heap.size + 2 < b1 → wpAnyH Tryd.prog .any O QQ SS 4 #[true, true, true, true, true, true, true, true, true, true, true, true, false, true, false, false, false] { tmps := #[.agg (vrow 266 s.at), .agg (vrow 5 b.at), .agg (vrow 2 (spAt x y)), .int .i64 k, .pointer (some ⟨w.heap.size, 0, none⟩), .pointer (some ⟨w.heap.size + 1, 0, none⟩), .pointer (some ⟨w.heap.size + 2, 0, none⟩), undef, .bool false, undef, .pointer (some ⟨b1, 0, none⟩), undef, undef, undef, undef, .tuple #[.agg (vrow 266 r.at), .agg (vrow 5 q.at), .int .i64 c], .agg (vrow 266 s.at), .agg (vrow 266 s.at), .agg (vrow 5 b.at), .agg (vrow 5 b.at), .agg (vrow 2 (spAt x y)), .agg (vrow 2 (spAt x y)), .int .i64 k, .tuple #[.agg (vrow 266 r.at), .agg (vrow 5 q.at), .int .i64 c], .agg (vrow 266 r.at), .agg (vrow 5 q.at), .int .i64 c, undef, undef, undef, undef, undef, undef, undef, undef, undef, undef, undef, undef, undef, undef, undef, undef, undef, undef, undef, undef, undef, undef, undef, undef, undef, undef, undef], defers := [] } W := by
      intro W b1 hH V1 n1_0 n1_1 n1_2
      subst hO hSS hQQ
      refine wpAnyH_ready (rs := [12]) (by kernel_rfl) (by simp) (AllReadyH.cons rfl (fun K hK => ?_) AllReadyH.nil)
      · rw [if_pos (by rfl)]
        go_simp
        try simp only [sp_vrow]
        have V := heap_at W (.cells (vrow 266 Sh.zero.at) 36) _ rfl
        have m0 := row_lt hH.2.1
        have m1 := row_lt hH.2.2.1
        have m2 := row_lt hH.2.2.2
        have mm1 := row_lt V1
        replace V1 := heap_past _ (.cells (vrow 266 Sh.zero.at) 36) _ _ mm1 V1
        replace hH : Below w.heap.size w (W.alloc (.cells (vrow 266 Sh.zero.at) 36)) ∧ (W.alloc (.cells (vrow 266 Sh.zero.at) 36)).heap[w.heap.size]? = some (.cells (vrow 266 s.at) 31) ∧ (W.alloc (.cells (vrow 266 Sh.zero.at) 36)).heap[w.heap.size + 1]? = some (.cells (vrow 5 b.at) 47) ∧ (W.alloc (.cells (vrow 266 Sh.zero.at) 36)).heap[w.heap.size + 2]? = some (.cells (vrow 2 (spAt x y)) 48) := ⟨hH.1.alloc hH.1.size _, heap_past _ _ _ _ m0 hH.2.1, heap_past _ _ _ _ m1 hH.2.2.1, heap_past _ _ _ _ m2 hH.2.2.2⟩
        refine hK.out _ _ hH (fun hH => ?_)
        clear hK K
        (try simp only [Act.put, List.setIfInBounds_toArray, List.set_cons_succ, List.set_cons_zero])
        refine wpAnyH_at 3 #[true, true, true, true, true, true, true, true, true, true, true, true, true, true, false, false, false] (by kernel_rfl) (by kernel_rfl) ?_
        exact N4_11 (W.alloc (.cells (vrow 266 Sh.zero.at) 36)) W.heap.size b1 hH V m0 m1 m2 V1 n1_0 n1_1 n1_2 (by omega)
    have N4_00 : ∀ (W : World), (Below w.heap.size w W ∧ W.heap[w.heap.size]? = some (.cells (vrow 266 s.at) 31) ∧ W.heap[w.heap.size + 1]? = some (.cells (vrow 5 b.at) 47) ∧ W.heap[w.heap.size + 2]? = some (.cells (vrow 2 (spAt x y)) 48)) → wpAnyH Tryd.prog .any O QQ SS 5 #[true, true, true, true, true, true, true, true, true, true, true, true, false, false, false, false, false] { tmps := #[.agg (vrow 266 s.at), .agg (vrow 5 b.at), .agg (vrow 2 (spAt x y)), .int .i64 k, .pointer (some ⟨w.heap.size, 0, none⟩), .pointer (some ⟨w.heap.size + 1, 0, none⟩), .pointer (some ⟨w.heap.size + 2, 0, none⟩), undef, .bool false, undef, undef, undef, undef, undef, undef, .tuple #[.agg (vrow 266 r.at), .agg (vrow 5 q.at), .int .i64 c], .agg (vrow 266 s.at), .agg (vrow 266 s.at), .agg (vrow 5 b.at), .agg (vrow 5 b.at), .agg (vrow 2 (spAt x y)), .agg (vrow 2 (spAt x y)), .int .i64 k, .tuple #[.agg (vrow 266 r.at), .agg (vrow 5 q.at), .int .i64 c], .agg (vrow 266 r.at), .agg (vrow 5 q.at), .int .i64 c, undef, undef, undef, undef, undef, undef, undef, undef, undef, undef, undef, undef, undef, undef, undef, undef, undef, undef, undef, undef, undef, undef, undef, undef, undef, undef, undef], defers := [] } W := by
      intro W hH
      subst hO hSS hQQ
      refine wpAnyH_ready (rs := [12, 13]) (by kernel_rfl) (by simp) (AllReadyH.cons rfl (fun K hK => ?_) (AllReadyH.cons rfl (fun K hK => ?_) AllReadyH.nil))
      · rw [if_pos (by rfl)]
        go_simp
        try simp only [sp_vrow]
        have V := heap_at W (.cells (vrow 266 Sh.zero.at) 36) _ rfl
        have m0 := row_lt hH.2.1
        have m1 := row_lt hH.2.2.1
        have m2 := row_lt hH.2.2.2
        replace hH : Below w.heap.size w (W.alloc (.cells (vrow 266 Sh.zero.at) 36)) ∧ (W.alloc (.cells (vrow 266 Sh.zero.at) 36)).heap[w.heap.size]? = some (.cells (vrow 266 s.at) 31) ∧ (W.alloc (.cells (vrow 266 Sh.zero.at) 36)).heap[w.heap.size + 1]? = some (.cells (vrow 5 b.at) 47) ∧ (W.alloc (.cells (vrow 266 Sh.zero.at) 36)).heap[w.heap.size + 2]? = some (.cells (vrow 2 (spAt x y)) 48) := ⟨hH.1.alloc hH.1.size _, heap_past _ _ _ _ m0 hH.2.1, heap_past _ _ _ _ m1 hH.2.2.1, heap_past _ _ _ _ m2 hH.2.2.2⟩
        refine hK.out _ _ hH (fun hH => ?_)
        clear hK K
        (try simp only [Act.put, List.setIfInBounds_toArray, List.set_cons_succ, List.set_cons_zero])
        refine wpAnyH_at 4 #[true, true, true, true, true, true, true, true, true, true, true, true, true, false, false, false, false] (by kernel_rfl) (by kernel_rfl) ?_
        exact N4_10 (W.alloc (.cells (vrow 266 Sh.zero.at) 36)) W.heap.size hH V m0 m1 m2
      · rw [if_pos (by rfl)]
        go_simp
        try simp only [sp_vrow]
        have V := heap_at W (.cells (vrow 5 Br.zero.at) 49) _ rfl
        have m0 := row_lt hH.2.1
        have m1 := row_lt hH.2.2.1
        have m2 := row_lt hH.2.2.2
        replace hH : Below w.heap.size w (W.alloc (.cells (vrow 5 Br.zero.at) 49)) ∧ (W.alloc (.cells (vrow 5 Br.zero.at) 49)).heap[w.heap.size]? = some (.cells (vrow 266 s.at) 31) ∧ (W.alloc (.cells (vrow 5 Br.zero.at) 49)).heap[w.heap.size + 1]? = some (.cells (vrow 5 b.at) 47) ∧ (W.alloc (.cells (vrow 5 Br.zero.at) 49)).heap[w.heap.size + 2]? = some (.cells (vrow 2 (spAt x y)) 48) := ⟨hH.1.alloc hH.1.size _, heap_past _ _ _ _ m0 hH.2.1, heap_past _ _ _ _ m1 hH.2.2.1, heap_past _ _ _ _ m2 hH.2.2.2⟩
        refine hK.out _ _ hH (fun hH => ?_)
        clear hK K
        (try simp only [Act.put, List.setIfInBounds_toArray, List.set_cons_succ, List.set_cons_zero])
        refine wpAnyH_at 4 #[true, true, true, true, true, true, true, true, true, true, true, true, false, true, false, false, false] (by kernel_rfl) (by kernel_rfl) ?_
        exact N4_01 (W.alloc (.cells (vrow 5 Br.zero.at) 49)) W.heap.size hH V m0 m1 m2
    have N3_11 : ∀ (W : World) (b0 : Nat) (b1 : Nat), (Below w.heap.size w W ∧ W.heap[w.heap.size]? = some (.cells (vrow 266 s.at) 31) ∧ W.heap[w.heap.size + 1]? = some (.cells (vrow 5 b.at) 47) ∧ W.heap[w.heap.size + 2]? = some (.cells (vrow 2 (spAt x y)) 48)) → W.heap[b0]? = some (.cells (vrow 266 Sh.zero.at) 36) → w.heap.size < b0 → w.heap.size + 1 < b0 → w.heap.size + 2 < b0 → W.heap[b1]? = some (.cells (vrow 5 Br.zero.at) 49) → w.heap.size < b1 → w.heap.size + 1 < b1 → w.heap.size + 2 < b1 → b0 ≠ b1 → wpAnyH Tryd.prog .any O QQ SS 8 #[true, true, true, true, true, true, true, false, false, false, false, false, true, true, false, false, false] { tmps := #[.agg (vrow 266 s.at), .agg (vrow 5 b.at), .agg (vrow 2 (spAt x y)), .int .i64 k, .pointer (some ⟨w.heap.size, 0, none⟩), .pointer (some ⟨w.heap.size + 1, 0, none⟩), .pointer (some ⟨w.heap.size + 2, 0, none⟩), undef, .bool false, .pointer (some ⟨b0, 0, none⟩), .pointer (some ⟨b1, 0, none⟩), undef, undef, undef, undef, undef, .agg (vrow 266 s.at), .agg (vrow 266 s.at), .agg (vrow 5 b.at), .agg (vrow 5 b.at), .agg (vrow 2 (spAt x y)), .agg (vrow 2 (spAt x y)), .int .i64 k, undef, undef, undef, undef, undef, undef, undef, undef, undef, undef, undef, undef, undef, undef, undef, undef, undef, undef, undef, undef, undef, undef, undef, undef, undef, undef, undef, undef, undef, undef, undef], defers := [] } W := by
      intro W b0 b1 hH V0 n0_0 n0_1 n0_2 V1 n1_0 n1_1 n1_2 d0_1
      subst hO hSS hQQ
      refine wpAnyH_ready (rs := [7]) (by kernel_rfl) (by simp) (AllReadyH.cons rfl (fun K hK => ?_) AllReadyH.nil)
      · rw [if_pos (by rfl)]
        go_simp
        go_at_call 22
        refine (HS.out _).mono ?_
        rintro o X ⟨rfl, hb⟩
        replace hH : Below w.heap.size w X ∧ X.heap[w.heap.size]? = some (.cells (vrow 266 s.at) 31) ∧ X.heap[w.heap.size + 1]? = some (.cells (vrow 5 b.at) 47) ∧ X.heap[w.heap.size + 2]? = some (.cells (vrow 2 (spAt x y)) 48) := ⟨hH.1.trans (hb.mono hH.1.size), row_next hb hH.2.1, row_next hb hH.2.2.1, row_next hb hH.2.2.2⟩
        replace V0 := row_next hb V0
        replace V1 := row_next hb V1
        clear hb
        refine hK.out _ _ hH (fun hH => ?_)
        clear hK K
        (try simp only [Act.put, List.setIfInBounds_toArray, List.set_cons_succ, List.set_cons_zero])
        refine wpAnyH_take (i := 8) (v := (.tuple #[.agg (vrow 266 r.at), .agg (vrow 5 q.at), .int .i64 c])) rfl (by kernel_rfl) (by kernel_rfl) (by kernel_rfl) (fun _ _ _ h => by cases h.1) (.inl ⟨by rfl, fun w _ => by go_simp⟩) hH ?_
        (try simp only [Act.put, List.setIfInBounds_toArray, List.set_cons_succ, List.set_cons_zero])
        refine wpAnyH_take (i := 9) (v := (.agg (vrow 266 r.at))) rfl (by kernel_rfl) (by kernel_rfl) (by kernel_rfl) (fun _ _ _ h => by cases h.1) (.inl ⟨by rfl, fun w _ => by go_simp⟩) hH ?_
        (try simp only [Act.put, List.setIfInBounds_toArray, List.set_cons_succ, List.set_cons_zero])
        refine wpAnyH_take (i := 10) (v := (.agg (vrow 5 q.at))) rfl (by kernel_rfl) (by kernel_rfl) (by kernel_rfl) (fun _ _ _ h => by cases h.1) (.inl ⟨by rfl, fun w _ => by go_simp⟩) hH ?_
        (try simp only [Act.put, List.setIfInBounds_toArray, List.set_cons_succ, List.set_cons_zero])
        refine wpAnyH_take (i := 11) (v := (.int .i64 c)) rfl (by kernel_rfl) (by kernel_rfl) (by kernel_rfl) (fun _ _ _ h => by cases h.1) (.inl ⟨by rfl, fun w _ => by go_simp⟩) hH ?_
        (try simp only [Act.put, List.setIfInBounds_toArray, List.set_cons_succ, List.set_cons_zero])
        refine wpAnyH_at 3 #[true, true, true, true, true, true, true, true, true, true, true, true, true, true, false, false, false] (by kernel_rfl) (by kernel_rfl) ?_
        exact N4_11 X b0 b1 hH V0 n0_0 n0_1 n0_2 V1 n1_0 n1_1 n1_2 d0_1
    have N3_10 : ∀ (W : World) (b0 : Nat), (Below w.heap.size w W ∧ W.heap[w.heap.size]? = some (.cells (vrow 266 s.at) 31) ∧ W.heap[w.heap.size + 1]? = some (.cells (vrow 5 b.at) 47) ∧ W.heap[w.heap.size + 2]? = some (.cells (vrow 2 (spAt x y)) 48)) → W.heap[b0]? = some (.cells (vrow 266 Sh.zero.at) 36) → w.heap.size < b0 → w.heap.size + 1 < b0 → w.heap.size + 2 < b0 → wpAnyH Tryd.prog .any O QQ SS 9 #[true, true, true, true, true, true, true, false, false, false, false, false, true, false, false, false, false] { tmps := #[.agg (vrow 266 s.at), .agg (vrow 5 b.at), .agg (vrow 2 (spAt x y)), .int .i64 k, .pointer (some ⟨w.heap.size, 0, none⟩), .pointer (some ⟨w.heap.size + 1, 0, none⟩), .pointer (some ⟨w.heap.size + 2, 0, none⟩), undef, .bool false, .pointer (some ⟨b0, 0, none⟩), undef, undef, undef, undef, undef, undef, .agg (vrow 266 s.at), .agg (vrow 266 s.at), .agg (vrow 5 b.at), .agg (vrow 5 b.at), .agg (vrow 2 (spAt x y)), .agg (vrow 2 (spAt x y)), .int .i64 k, undef, undef, undef, undef, undef, undef, undef, undef, undef, undef, undef, undef, undef, undef, undef, undef, undef, undef, undef, undef, undef, undef, undef, undef, undef, undef, undef, undef, undef, undef, undef], defers := [] } W := by
      intro W b0 hH V0 n0_0 n0_1 n0_2
      subst hO hSS hQQ
      refine wpAnyH_ready (rs := [7, 13]) (by kernel_rfl) (by simp) (AllReadyH.cons rfl (fun K hK => ?_) (AllReadyH.cons rfl (fun K hK => ?_) AllReadyH.nil))
      · rw [if_pos (by rfl)]
        go_simp
        go_at_call 22
        refine (HS.out _).mono ?_
        rintro o X ⟨rfl, hb⟩
        replace hH : Below w.heap.size w X ∧ X.heap[w.heap.size]? = some (.cells (vrow 266 s.at) 31) ∧ X.heap[w.heap.size + 1]? = some (.cells (vrow 5 b.at) 47) ∧ X.heap[w.heap.size + 2]? = some (.cells (vrow 2 (spAt x y)) 48) := ⟨hH.1.trans (hb.mono hH.1.size), row_next hb hH.2.1, row_next hb hH.2.2.1, row_next hb hH.2.2.2⟩
        replace V0 := row_next hb V0
        clear hb
        refine hK.out _ _ hH (fun hH => ?_)
        clear hK K
        (try simp only [Act.put, List.setIfInBounds_toArray, List.set_cons_succ, List.set_cons_zero])
        refine wpAnyH_take (i := 8) (v := (.tuple #[.agg (vrow 266 r.at), .agg (vrow 5 q.at), .int .i64 c])) rfl (by kernel_rfl) (by kernel_rfl) (by kernel_rfl) (fun _ _ _ h => by cases h.1) (.inl ⟨by rfl, fun w _ => by go_simp⟩) hH ?_
        (try simp only [Act.put, List.setIfInBounds_toArray, List.set_cons_succ, List.set_cons_zero])
        refine wpAnyH_take (i := 9) (v := (.agg (vrow 266 r.at))) rfl (by kernel_rfl) (by kernel_rfl) (by kernel_rfl) (fun _ _ _ h => by cases h.1) (.inl ⟨by rfl, fun w _ => by go_simp⟩) hH ?_
        (try simp only [Act.put, List.setIfInBounds_toArray, List.set_cons_succ, List.set_cons_zero])
        refine wpAnyH_take (i := 10) (v := (.agg (vrow 5 q.at))) rfl (by kernel_rfl) (by kernel_rfl) (by kernel_rfl) (fun _ _ _ h => by cases h.1) (.inl ⟨by rfl, fun w _ => by go_simp⟩) hH ?_
        (try simp only [Act.put, List.setIfInBounds_toArray, List.set_cons_succ, List.set_cons_zero])
        refine wpAnyH_take (i := 11) (v := (.int .i64 c)) rfl (by kernel_rfl) (by kernel_rfl) (by kernel_rfl) (fun _ _ _ h => by cases h.1) (.inl ⟨by rfl, fun w _ => by go_simp⟩) hH ?_
        (try simp only [Act.put, List.setIfInBounds_toArray, List.set_cons_succ, List.set_cons_zero])
        refine wpAnyH_at 4 #[true, true, true, true, true, true, true, true, true, true, true, true, true, false, false, false, false] (by kernel_rfl) (by kernel_rfl) ?_
        exact N4_10 X b0 hH V0 n0_0 n0_1 n0_2
      · rw [if_pos (by rfl)]
        go_simp
        try simp only [sp_vrow]
        have V := heap_at W (.cells (vrow 5 Br.zero.at) 49) _ rfl
        have m0 := row_lt hH.2.1
        have m1 := row_lt hH.2.2.1
        have m2 := row_lt hH.2.2.2
        have mm0 := row_lt V0
        replace V0 := heap_past _ (.cells (vrow 5 Br.zero.at) 49) _ _ mm0 V0
        replace hH : Below w.heap.size w (W.alloc (.cells (vrow 5 Br.zero.at) 49)) ∧ (W.alloc (.cells (vrow 5 Br.zero.at) 49)).heap[w.heap.size]? = some (.cells (vrow 266 s.at) 31) ∧ (W.alloc (.cells (vrow 5 Br.zero.at) 49)).heap[w.heap.size + 1]? = some (.cells (vrow 5 b.at) 47) ∧ (W.alloc (.cells (vrow 5 Br.zero.at) 49)).heap[w.heap.size + 2]? = some (.cells (vrow 2 (spAt x y)) 48) := ⟨hH.1.alloc hH.1.size _, heap_past _ _ _ _ m0 hH.2.1, heap_past _ _ _ _ m1 hH.2.2.1, heap_past _ _ _ _ m2 hH.2.2.2⟩
        refine hK.out _ _ hH (fun hH => ?_)
        clear hK K
        (try simp only [Act.put, List.setIfInBounds_toArray, List.set_cons_succ, List.set_cons_zero])
        refine wpAnyH_at 8 #[true, true, true, true, true, true, true, false, false, false, false, false, true, true, false, false, false] (by kernel_rfl) (by kernel_rfl) ?_
        exact N3_11 (W.alloc (.cells (vrow 5 Br.zero.at) 49)) b0 W.heap.size hH V0 n0_0 n0_1 n0_2 V m0 m1 m2 (by omega)
    have N3_01 : ∀ (W : World) (b1 : Nat), (Below w.heap.size w W ∧ W.heap[w.heap.size]? = some (.cells (vrow 266 s.at) 31) ∧ W.heap[w.heap.size + 1]? = some (.cells (vrow 5 b.at) 47) ∧ W.heap[w.heap.size + 2]? = some (.cells (vrow 2 (spAt x y)) 48)) → W.heap[b1]? = some (.cells (vrow 5 Br.zero.at) 49) → w.heap.size < b1 → w.heap.size + 1 < b1 → w.heap.size + 2 < b1 → wpAnyH Tryd.prog .any O QQ SS 9 #[true, true, true, true, true, true, true, false, false, false, false, false, false, true, false, false, false] { tmps := #[.agg (vrow 266 s.at), .agg (vrow 5 b.at), .agg (vrow 2 (spAt x y)), .int .i64 k, .pointer (some ⟨w.heap.size, 0, none⟩), .pointer (some ⟨w.heap.size + 1, 0, none⟩), .pointer (some ⟨w.heap.size + 2, 0, none⟩), undef, .bool false, undef, .pointer (some ⟨b1, 0, none⟩), undef, undef, undef, undef, undef, .agg (vrow 266 s.at), .agg (vrow 266 s.at), .agg (vrow 5 b.at), .agg (vrow 5 b.at), .agg (vrow 2 (spAt x y)), .agg (vrow 2 (spAt x y)), .int .i64 k, undef, undef, undef, undef, undef, undef, undef, undef, undef, undef, undef, undef, undef, undef, undef, undef, undef, undef, undef, undef, undef, undef, undef, undef, undef, undef, undef, undef, undef, undef, undef], defers := [] } W := by
      intro W b1 hH V1 n1_0 n1_1 n1_2
      subst hO hSS hQQ
      refine wpAnyH_ready (rs := [7, 12]) (by kernel_rfl) (by simp) (AllReadyH.cons rfl (fun K hK => ?_) (AllReadyH.cons rfl (fun K hK => ?_) AllReadyH.nil))
      · rw [if_pos (by rfl)]
        go_simp
        go_at_call 22
        refine (HS.out _).mono ?_
        rintro o X ⟨rfl, hb⟩
        replace hH : Below w.heap.size w X ∧ X.heap[w.heap.size]? = some (.cells (vrow 266 s.at) 31) ∧ X.heap[w.heap.size + 1]? = some (.cells (vrow 5 b.at) 47) ∧ X.heap[w.heap.size + 2]? = some (.cells (vrow 2 (spAt x y)) 48) := ⟨hH.1.trans (hb.mono hH.1.size), row_next hb hH.2.1, row_next hb hH.2.2.1, row_next hb hH.2.2.2⟩
        replace V1 := row_next hb V1
        clear hb
        refine hK.out _ _ hH (fun hH => ?_)
        clear hK K
        (try simp only [Act.put, List.setIfInBounds_toArray, List.set_cons_succ, List.set_cons_zero])
        refine wpAnyH_take (i := 8) (v := (.tuple #[.agg (vrow 266 r.at), .agg (vrow 5 q.at), .int .i64 c])) rfl (by kernel_rfl) (by kernel_rfl) (by kernel_rfl) (fun _ _ _ h => by cases h.1) (.inl ⟨by rfl, fun w _ => by go_simp⟩) hH ?_
        (try simp only [Act.put, List.setIfInBounds_toArray, List.set_cons_succ, List.set_cons_zero])
        refine wpAnyH_take (i := 9) (v := (.agg (vrow 266 r.at))) rfl (by kernel_rfl) (by kernel_rfl) (by kernel_rfl) (fun _ _ _ h => by cases h.1) (.inl ⟨by rfl, fun w _ => by go_simp⟩) hH ?_
        (try simp only [Act.put, List.setIfInBounds_toArray, List.set_cons_succ, List.set_cons_zero])
        refine wpAnyH_take (i := 10) (v := (.agg (vrow 5 q.at))) rfl (by kernel_rfl) (by kernel_rfl) (by kernel_rfl) (fun _ _ _ h => by cases h.1) (.inl ⟨by rfl, fun w _ => by go_simp⟩) hH ?_
        (try simp only [Act.put, List.setIfInBounds_toArray, List.set_cons_succ, List.set_cons_zero])
        refine wpAnyH_take (i := 11) (v := (.int .i64 c)) rfl (by kernel_rfl) (by kernel_rfl) (by kernel_rfl) (fun _ _ _ h => by cases h.1) (.inl ⟨by rfl, fun w _ => by go_simp⟩) hH ?_
        (try simp only [Act.put, List.setIfInBounds_toArray, List.set_cons_succ, List.set_cons_zero])
        refine wpAnyH_at 4 #[true, true, true, true, true, true, true, true, true, true, true, true, false, true, false, false, false] (by kernel_rfl) (by kernel_rfl) ?_
        exact N4_01 X b1 hH V1 n1_0 n1_1 n1_2
      · rw [if_pos (by rfl)]
        go_simp
        try simp only [sp_vrow]
        have V := heap_at W (.cells (vrow 266 Sh.zero.at) 36) _ rfl
        have m0 := row_lt hH.2.1
        have m1 := row_lt hH.2.2.1
        have m2 := row_lt hH.2.2.2
        have mm1 := row_lt V1
        replace V1 := heap_past _ (.cells (vrow 266 Sh.zero.at) 36) _ _ mm1 V1
        replace hH : Below w.heap.size w (W.alloc (.cells (vrow 266 Sh.zero.at) 36)) ∧ (W.alloc (.cells (vrow 266 Sh.zero.at) 36)).heap[w.heap.size]? = some (.cells (vrow 266 s.at) 31) ∧ (W.alloc (.cells (vrow 266 Sh.zero.at) 36)).heap[w.heap.size + 1]? = some (.cells (vrow 5 b.at) 47) ∧ (W.alloc (.cells (vrow 266 Sh.zero.at) 36)).heap[w.heap.size + 2]? = some (.cells (vrow 2 (spAt x y)) 48) := ⟨hH.1.alloc hH.1.size _, heap_past _ _ _ _ m0 hH.2.1, heap_past _ _ _ _ m1 hH.2.2.1, heap_past _ _ _ _ m2 hH.2.2.2⟩
        refine hK.out _ _ hH (fun hH => ?_)
        clear hK K
        (try simp only [Act.put, List.setIfInBounds_toArray, List.set_cons_succ, List.set_cons_zero])
        refine wpAnyH_at 8 #[true, true, true, true, true, true, true, false, false, false, false, false, true, true, false, false, false] (by kernel_rfl) (by kernel_rfl) ?_
        exact N3_11 (W.alloc (.cells (vrow 266 Sh.zero.at) 36)) W.heap.size b1 hH V m0 m1 m2 V1 n1_0 n1_1 n1_2 (by omega)
    have N3_00 : ∀ (W : World), (Below w.heap.size w W ∧ W.heap[w.heap.size]? = some (.cells (vrow 266 s.at) 31) ∧ W.heap[w.heap.size + 1]? = some (.cells (vrow 5 b.at) 47) ∧ W.heap[w.heap.size + 2]? = some (.cells (vrow 2 (spAt x y)) 48)) → wpAnyH Tryd.prog .any O QQ SS 10 #[true, true, true, true, true, true, true, false, false, false, false, false, false, false, false, false, false] { tmps := #[.agg (vrow 266 s.at), .agg (vrow 5 b.at), .agg (vrow 2 (spAt x y)), .int .i64 k, .pointer (some ⟨w.heap.size, 0, none⟩), .pointer (some ⟨w.heap.size + 1, 0, none⟩), .pointer (some ⟨w.heap.size + 2, 0, none⟩), undef, .bool false, undef, undef, undef, undef, undef, undef, undef, .agg (vrow 266 s.at), .agg (vrow 266 s.at), .agg (vrow 5 b.at), .agg (vrow 5 b.at), .agg (vrow 2 (spAt x y)), .agg (vrow 2 (spAt x y)), .int .i64 k, undef, undef, undef, undef, undef, undef, undef, undef, undef, undef, undef, undef, undef, undef, undef, undef, undef, undef, undef, undef, undef, undef, undef, undef, undef, undef, undef, undef, undef, undef, undef], defers := [] } W := by
      intro W hH
      subst hO hSS hQQ
      refine wpAnyH_ready (rs := [7, 12, 13]) (by kernel_rfl) (by simp) (AllReadyH.cons rfl (fun K hK => ?_) (AllReadyH.cons rfl (fun K hK => ?_) (AllReadyH.cons rfl (fun K hK => ?_) AllReadyH.nil)))
      · rw [if_pos (by rfl)]
        go_simp
        go_at_call 22
        refine (HS.out _).mono ?_
        rintro o X ⟨rfl, hb⟩
        replace hH : Below w.heap.size w X ∧ X.heap[w.heap.size]? = some (.cells (vrow 266 s.at) 31) ∧ X.heap[w.heap.size + 1]? = some (.cells (vrow 5 b.at) 47) ∧ X.heap[w.heap.size + 2]? = some (.cells (vrow 2 (spAt x y)) 48) := ⟨hH.1.trans (hb.mono hH.1.size), row_next hb hH.2.1, row_next hb hH.2.2.1, row_next hb hH.2.2.2⟩
        clear hb
        refine hK.out _ _ hH (fun hH => ?_)
        clear hK K
        (try simp only [Act.put, List.setIfInBounds_toArray, List.set_cons_succ, List.set_cons_zero])
        refine wpAnyH_take (i := 8) (v := (.tuple #[.agg (vrow 266 r.at), .agg (vrow 5 q.at), .int .i64 c])) rfl (by kernel_rfl) (by kernel_rfl) (by kernel_rfl) (fun _ _ _ h => by cases h.1) (.inl ⟨by rfl, fun w _ => by go_simp⟩) hH ?_
        (try simp only [Act.put, List.setIfInBounds_toArray, List.set_cons_succ, List.set_cons_zero])
        refine wpAnyH_take (i := 9) (v := (.agg (vrow 266 r.at))) rfl (by kernel_rfl) (by kernel_rfl) (by kernel_rfl) (fun _ _ _ h => by cases h.1) (.inl ⟨by rfl, fun w _ => by go_simp⟩) hH ?_
        (try simp only [Act.put, List.setIfInBounds_toArray, List.set_cons_succ, List.set_cons_zero])
        refine wpAnyH_take (i := 10) (v := (.agg (vrow 5 q.at))) rfl (by kernel_rfl) (by kernel_rfl) (by kernel_rfl) (fun _ _ _ h => by cases h.1) (.inl ⟨by rfl, fun w _ => by go_simp⟩) hH ?_
        (try simp only [Act.put, List.setIfInBounds_toArray, List.set_cons_succ, List.set_cons_zero])
        refine wpAnyH_take (i := 11) (v := (.int .i64 c)) rfl (by kernel_rfl) (by kernel_rfl) (by kernel_rfl) (fun _ _ _ h => by cases h.1) (.inl ⟨by rfl, fun w _ => by go_simp⟩) hH ?_
        (try simp only [Act.put, List.setIfInBounds_toArray, List.set_cons_succ, List.set_cons_zero])
        refine wpAnyH_at 5 #[true, true, true, true, true, true, true, true, true, true, true, true, false, false, false, false, false] (by kernel_rfl) (by kernel_rfl) ?_
        exact N4_00 X  hH
      · rw [if_pos (by rfl)]
        go_simp
        try simp only [sp_vrow]
        have V := heap_at W (.cells (vrow 266 Sh.zero.at) 36) _ rfl
        have m0 := row_lt hH.2.1
        have m1 := row_lt hH.2.2.1
        have m2 := row_lt hH.2.2.2
        replace hH : Below w.heap.size w (W.alloc (.cells (vrow 266 Sh.zero.at) 36)) ∧ (W.alloc (.cells (vrow 266 Sh.zero.at) 36)).heap[w.heap.size]? = some (.cells (vrow 266 s.at) 31) ∧ (W.alloc (.cells (vrow 266 Sh.zero.at) 36)).heap[w.heap.size + 1]? = some (.cells (vrow 5 b.at) 47) ∧ (W.alloc (.cells (vrow 266 Sh.zero.at) 36)).heap[w.heap.size + 2]? = some (.cells (vrow 2 (spAt x y)) 48) := ⟨hH.1.alloc hH.1.size _, heap_past _ _ _ _ m0 hH.2.1, heap_past _ _ _ _ m1 hH.2.2.1, heap_past _ _ _ _ m2 hH.2.2.2⟩
        refine hK.out _ _ hH (fun hH => ?_)
        clear hK K
        (try simp only [Act.put, List.setIfInBounds_toArray, List.set_cons_succ, List.set_cons_zero])
        refine wpAnyH_at 9 #[true, true, true, true, true, true, true, false, false, false, false, false, true, false, false, false, false] (by kernel_rfl) (by kernel_rfl) ?_
        exact N3_10 (W.alloc (.cells (vrow 266 Sh.zero.at) 36)) W.heap.size hH V m0 m1 m2
      · rw [if_pos (by rfl)]
        go_simp
        try simp only [sp_vrow]
        have V := heap_at W (.cells (vrow 5 Br.zero.at) 49) _ rfl
        have m0 := row_lt hH.2.1
        have m1 := row_lt hH.2.2.1
        have m2 := row_lt hH.2.2.2
        replace hH : Below w.heap.size w (W.alloc (.cells (vrow 5 Br.zero.at) 49)) ∧ (W.alloc (.cells (vrow 5 Br.zero.at) 49)).heap[w.heap.size]? = some (.cells (vrow 266 s.at) 31) ∧ (W.alloc (.cells (vrow 5 Br.zero.at) 49)).heap[w.heap.size + 1]? = some (.cells (vrow 5 b.at) 47) ∧ (W.alloc (.cells (vrow 5 Br.zero.at) 49)).heap[w.heap.size + 2]? = some (.cells (vrow 2 (spAt x y)) 48) := ⟨hH.1.alloc hH.1.size _, heap_past _ _ _ _ m0 hH.2.1, heap_past _ _ _ _ m1 hH.2.2.1, heap_past _ _ _ _ m2 hH.2.2.2⟩
        refine hK.out _ _ hH (fun hH => ?_)
        clear hK K
        (try simp only [Act.put, List.setIfInBounds_toArray, List.set_cons_succ, List.set_cons_zero])
        refine wpAnyH_at 9 #[true, true, true, true, true, true, true, false, false, false, false, false, false, true, false, false, false] (by kernel_rfl) (by kernel_rfl) ?_
        exact N3_01 (W.alloc (.cells (vrow 5 Br.zero.at) 49)) W.heap.size hH V m0 m1 m2
    have N2_11 : ∀ (W : World) (b0 : Nat) (b1 : Nat), (Below w.heap.size w W ∧ W.heap[w.heap.size]? = some (.cells (vrow 266 s.at) 31) ∧ W.heap[w.heap.size + 1]? = some (.cells (vrow 5 b.at) 47) ∧ W.heap[w.heap.size + 2]? = some (.cells (vrow 2 (spAt x y)) 48)) → W.heap[b0]? = some (.cells (vrow 266 Sh.zero.at) 36) → w.heap.size < b0 → w.heap.size + 1 < b0 → w.heap.size + 2 < b0 → W.heap[b1]? = some (.cells (vrow 5 Br.zero.at) 49) → w.heap.size < b1 → w.heap.size + 1 < b1 → w.heap.size + 2 < b1 → b0 ≠ b1 → wpAnyH Tryd.prog .any O QQ SS 9 #[true, true, true, true, true, false, true, false, false, false, false, false, true, true, false, false, false] { tmps := #[.agg (vrow 266 s.at), .agg (vrow 5 b.at), .agg (vrow 2 (spAt x y)), .int .i64 k, .pointer (some ⟨w.heap.size, 0, none⟩), .pointer (some ⟨w.heap.size + 1, 0, none⟩), .pointer (some ⟨w.heap.size + 2, 0, none⟩), undef, .bool false, .pointer (some ⟨b0, 0, none⟩), .pointer (some ⟨b1, 0, none⟩), undef, undef, undef, undef, undef, .agg (vrow 266 s.at), .agg (vrow 266 s.at), .agg (vrow 5 b.at), .agg (vrow 5 b.at), .agg (vrow 2 (spAt x y)), undef, .int .i64 k, undef, undef, undef, undef, undef, undef, undef, undef, undef, undef, undef, undef, undef, undef, undef, undef, undef, undef, undef, undef, undef, undef, undef, undef, undef, undef, undef, undef, undef, undef, undef], defers := [] } W := by
      intro W b0 b1 hH V0 n0_0 n0_1 n0_2 V1 n1_0 n1_1 n1_2 d0_1
      subst hO hSS hQQ
      refine wpAnyH_ready (rs := [5]) (by kernel_rfl) (by simp) (AllReadyH.cons rfl (fun K hK => ?_) AllReadyH.nil)
      · rw [if_pos (by rfl)]
        go_simp
        go_at_call 24
        refine (HT2.out _).mono ?_
        rintro o X ⟨rfl, hb⟩
        replace hH : Below w.heap.size w X ∧ X.heap[w.heap.size]? = some (.cells (vrow 266 s.at) 31) ∧ X.heap[w.heap.size + 1]? = some (.cells (vrow 5 b.at) 47) ∧ X.heap[w.heap.size + 2]? = some (.cells (vrow 2 (spAt x y)) 48) := ⟨hH.1.trans (hb.mono hH.1.size), row_next hb hH.2.1, row_next hb hH.2.2.1, row_next hb hH.2.2.2⟩
        replace V0 := row_next hb V0
        replace V1 := row_next hb V1
        clear hb
        refine hK.out _ _ hH (fun hH => ?_)
        clear hK K
        (try simp only [Act.put, List.setIfInBounds_toArray, List.set_cons_succ, List.set_cons_zero])
        refine wpAnyH_at 8 #[true, true, true, true, true, true, true, false, false, false, false, false, true, true, false, false, false] (by kernel_rfl) (by kernel_rfl) ?_
        exact N3_11 X b0 b1 hH V0 n0_0 n0_1 n0_2 V1 n1_0 n1_1 n1_2 d0_1
    have N2_10 : ∀ (W : World) (b0 : Nat), (Below w.heap.size w W ∧ W.heap[w.heap.size]? = some (.cells (vrow 266 s.at) 31) ∧ W.heap[w.heap.size + 1]? = some (.cells (vrow 5 b.at) 47) ∧ W.heap[w.heap.size + 2]? = some (.cells (vrow 2 (spAt x y)) 48)) → W.heap[b0]? = some (.cells (vrow 266 Sh.zero.at) 36) → w.heap.size < b0 → w.heap.size + 1 < b0 → w.heap.size + 2 < b0 → wpAnyH Tryd.prog .any O QQ SS 10 #[true, true, true, true, true, false, true, false, false, false, false, false, true, false, false, false, false] { tmps := #[.agg (vrow 266 s.at), .agg (vrow 5 b.at), .agg (vrow 2 (spAt x y)), .int .i64 k, .pointer (some ⟨w.heap.size, 0, none⟩), .pointer (some ⟨w.heap.size + 1, 0, none⟩), .pointer (some ⟨w.heap.size + 2, 0, none⟩), undef, .bool false, .pointer (some ⟨b0, 0, none⟩), undef, undef, undef, undef, undef, undef, .agg (vrow 266 s.at), .agg (vrow 266 s.at), .agg (vrow 5 b.at), .agg (vrow 5 b.at), .agg (vrow 2 (spAt x y)), undef, .int .i64 k, undef, undef, undef, undef, undef, undef, undef, undef, undef, undef, undef, undef, undef, undef, undef, undef, undef, undef, undef, undef, undef, undef, undef, undef, undef, undef, undef, undef, undef, undef, undef], defers := [] } W := by
      intro W b0 hH V0 n0_0 n0_1 n0_2
      subst hO hSS hQQ
      refine wpAnyH_ready (rs := [5, 13]) (by kernel_rfl) (by simp) (AllReadyH.cons rfl (fun K hK => ?_) (AllReadyH.cons rfl (fun K hK => ?_) AllReadyH.nil))
      · rw [if_pos (by rfl)]
        go_simp
        go_at_call 24
        refine (HT2.out _).mono ?_
        rintro o X ⟨rfl, hb⟩
        replace hH : Below w.heap.size w X ∧ X.heap[w.heap.size]? = some (.cells (vrow 266 s.at) 31) ∧ X.heap[w.heap.size + 1]? = some (.cells (vrow 5 b.at) 47) ∧ X.heap[w.heap.size + 2]? = some (.cells (vrow 2 (spAt x y)) 48) := ⟨hH.1.trans (hb.mono hH.1.size), row_next hb hH.2.1, row_next hb hH.2.2.1, row_next hb hH.2.2.2⟩
        replace V0 := row_next hb V0
        clear hb
        refine hK.out _ _ hH (fun hH => ?_)
        clear hK K
        (try simp only [Act.put, List.setIfInBounds_toArray, List.set_cons_succ, List.set_cons_zero])
        refine wpAnyH_at 9 #[true, true, true, true, true, true, true, false, false, false, false, false, true, false, false, false, false] (by kernel_rfl) (by kernel_rfl) ?_
        exact N3_10 X b0 hH V0 n0_0 n0_1 n0_2
      · rw [if_pos (by rfl)]
        go_simp
        try simp only [sp_vrow]
        have V := heap_at W (.cells (vrow 5 Br.zero.at) 49) _ rfl
        have m0 := row_lt hH.2.1
        have m1 := row_lt hH.2.2.1
        have m2 := row_lt hH.2.2.2
        have mm0 := row_lt V0
        replace V0 := heap_past _ (.cells (vrow 5 Br.zero.at) 49) _ _ mm0 V0
        replace hH : Below w.heap.size w (W.alloc (.cells (vrow 5 Br.zero.at) 49)) ∧ (W.alloc (.cells (vrow 5 Br.zero.at) 49)).heap[w.heap.size]? = some (.cells (vrow 266 s.at) 31) ∧ (W.alloc (.cells (vrow 5 Br.zero.at) 49)).heap[w.heap.size + 1]? = some (.cells (vrow 5 b.at) 47) ∧ (W.alloc (.cells (vrow 5 Br.zero.at) 49)).heap[w.heap.size + 2]? = some (.cells (vrow 2 (spAt x y)) 48) := ⟨hH.1.alloc hH.1.size _, heap_past _ _ _ _ m0 hH.2.1, heap_past _ _ _ _ m1 hH.2.2.1, heap_past _ _ _ _ m2 hH.2.2.2⟩
        refine hK.out _ _ hH (fun hH => ?_)
        clear hK K
        (try simp only [Act.put, List.setIfInBounds_toArray, List.set_cons_succ, List.set_cons_zero])
        refine wpAnyH_at 9 #[true, true, true, true, true, false, true, false, false, false, false, false, true, true, false, false, false] (by kernel_rfl) (by kernel_rfl) ?_
        exact N2_11 (W.alloc (.cells (vrow 5 Br.zero.at) 49)) b0 W.heap.size hH V0 n0_0 n0_1 n0_2 V m0 m1 m2 (by omega)
    have N2_01 : ∀ (W : World) (b1 : Nat), (Below w.heap.size w W ∧ W.heap[w.heap.size]? = some (.cells (vrow 266 s.at) 31) ∧ W.heap[w.heap.size + 1]? = some (.cells (vrow 5 b.at) 47) ∧ W.heap[w.heap.size + 2]? = some (.cells (vrow 2 (spAt x y)) 48)) → W.heap[b1]? = some (.cells (vrow 5 Br.zero.at) 49) → w.heap.size < b1 → w.heap.size + 1 < b1 → w.heap.size + 2 < b1 → wpAnyH Tryd.prog .any O QQ SS 10 #[true, true, true, true, true, false, true, false, false, false, false, false, false, true, false, false, false] { tmps := #[.agg (vrow 266 s.at), .agg (vrow 5 b.at), .agg (vrow 2 (spAt x y)), .int .i64 k, .pointer (some ⟨w.heap.size, 0, none⟩), .pointer (some ⟨w.heap.size + 1, 0, none⟩), .pointer (some ⟨w.heap.size + 2, 0, none⟩), undef, .bool false, undef, .pointer (some ⟨b1, 0, none⟩), undef, undef, undef, undef, undef, .agg (vrow 266 s.at), .agg (vrow 266 s.at), .agg (vrow 5 b.at), .agg (vrow 5 b.at), .agg (vrow 2 (spAt x y)), undef, .int .i64 k, undef, undef, undef, undef, undef, undef, undef, undef, undef, undef, undef, undef, undef, undef, undef, undef, undef, undef, undef, undef, undef, undef, undef, undef, undef, undef, undef, undef, undef, undef, undef], defers := [] } W := by
      intro W b1 hH V1 n1_0 n1_1 n1_2
      subst hO hSS hQQ
      refine wpAnyH_ready (rs := [5, 12]) (by kernel_rfl) (by simp) (AllReadyH.cons rfl (fun K hK => ?_) (AllReadyH.cons rfl (fun K hK => ?_) AllReadyH.nil))
      · rw [if_pos (by rfl)]
        go_simp
        go_at_call 24
        refine (HT2.out _).mono ?_
        rintro o X ⟨rfl, hb⟩
        replace hH : Below w.heap.size w X ∧ X.heap[w.heap.size]? = some (.cells (vrow 266 s.at) 31) ∧ X.heap[w.heap.size + 1]? = some (.cells (vrow 5 b.at) 47) ∧ X.heap[w.heap.size + 2]? = some (.cells (vrow 2 (spAt x y)) 48) := ⟨hH.1.trans (hb.mono hH.1.size), row_next hb hH.2.1, row_next hb hH.2.2.1, row_next hb hH.2.2.2⟩
        replace V1 := row_next hb V1
        clear hb
        refine hK.out _ _ hH (fun hH => ?_)
        clear hK K
        (try simp only [Act.put, List.setIfInBounds_toArray, List.set_cons_succ, List.set_cons_zero])
        refine wpAnyH_at 9 #[true, true, true, true, true, true, true, false, false, false, false, false, false, true, false, false, false] (by kernel_rfl) (by kernel_rfl) ?_
        exact N3_01 X b1 hH V1 n1_0 n1_1 n1_2
      · rw [if_pos (by rfl)]
        go_simp
        try simp only [sp_vrow]
        have V := heap_at W (.cells (vrow 266 Sh.zero.at) 36) _ rfl
        have m0 := row_lt hH.2.1
        have m1 := row_lt hH.2.2.1
        have m2 := row_lt hH.2.2.2
        have mm1 := row_lt V1
        replace V1 := heap_past _ (.cells (vrow 266 Sh.zero.at) 36) _ _ mm1 V1
        replace hH : Below w.heap.size w (W.alloc (.cells (vrow 266 Sh.zero.at) 36)) ∧ (W.alloc (.cells (vrow 266 Sh.zero.at) 36)).heap[w.heap.size]? = some (.cells (vrow 266 s.at) 31) ∧ (W.alloc (.cells (vrow 266 Sh.zero.at) 36)).heap[w.heap.size + 1]? = some (.cells (vrow 5 b.at) 47) ∧ (W.alloc (.cells (vrow 266 Sh.zero.at) 36)).heap[w.heap.size + 2]? = some (.cells (vrow 2 (spAt x y)) 48) := ⟨hH.1.alloc hH.1.size _, heap_past _ _ _ _ m0 hH.2.1, heap_past _ _ _ _ m1 hH.2.2.1, heap_past _ _ _ _ m2 hH.2.2.2⟩
        refine hK.out _ _ hH (fun hH => ?_)
        clear hK K
        (try simp only [Act.put, List.setIfInBounds_toArray, List.set_cons_succ, List.set_cons_zero])
        refine wpAnyH_at 9 #[true, true, true, true, true, false, true, false, false, false, false, false, true, true, false, false, false] (by kernel_rfl) (by kernel_rfl) ?_
        exact N2_11 (W.alloc (.cells (vrow 266 Sh.zero.at) 36)) W.heap.size b1 hH V m0 m1 m2 V1 n1_0 n1_1 n1_2 (by omega)
    have N2_00 : ∀ (W : World), (Below w.heap.size w W ∧ W.heap[w.heap.size]? = some (.cells (vrow 266 s.at) 31) ∧ W.heap[w.heap.size + 1]? = some (.cells (vrow 5 b.at) 47) ∧ W.heap[w.heap.size + 2]? = some (.cells (vrow 2 (spAt x y)) 48)) → wpAnyH Tryd.prog .any O QQ SS 11 #[true, true, true, true, true, false, true, false, false, false, false, false, false, false, false, false, false] { tmps := #[.agg (vrow 266 s.at), .agg (vrow 5 b.at), .agg (vrow 2 (spAt x y)), .int .i64 k, .pointer (some ⟨w.heap.size, 0, none⟩), .pointer (some ⟨w.heap.size + 1, 0, none⟩), .pointer (some ⟨w.heap.size + 2, 0, none⟩), undef, .bool false, undef, undef, undef, undef, undef, undef, undef, .agg (vrow 266 s.at), .agg (vrow 266 s.at), .agg (vrow 5 b.at), .agg (vrow 5 b.at), .agg (vrow 2 (spAt x y)), undef, .int .i64 k, undef, undef, undef, undef, undef, undef, undef, undef, undef, undef, undef, undef, undef, undef, undef, undef, undef, undef, undef, undef, undef, undef, undef, undef, undef, undef, undef, undef, undef, undef, undef], defers := [] } W := by
      intro W hH
      subst hO hSS hQQ
      refine wpAnyH_ready (rs := [5, 12, 13]) (by kernel_rfl) (by simp) (AllReadyH.cons rfl (fun K hK => ?_) (AllReadyH.cons rfl (fun K hK => ?_) (AllReadyH.cons rfl (fun K hK => ?_) AllReadyH.nil)))
      · rw [if_pos (by rfl)]
        go_simp
        go_at_call 24
        refine (HT2.out _).mono ?_
        rintro o X ⟨rfl, hb⟩
        replace hH : Below w.heap.size w X ∧ X.heap[w.heap.size]? = some (.cells (vrow 266 s.at) 31) ∧ X.heap[w.heap.size + 1]? = some (.cells (vrow 5 b.at) 47) ∧ X.heap[w.heap.size + 2]? = some (.cells (vrow 2 (spAt x y)) 48) := ⟨hH.1.trans (hb.mono hH.1.size), row_next hb hH.2.1, row_next hb hH.2.2.1, row_next hb hH.2.2.2⟩
        clear hb
        refine hK.out _ _ hH (fun hH => ?_)
        clear hK K
        (try simp only [Act.put, List.setIfInBounds_toArray, List.set_cons_succ, List.set_cons_zero])
        refine wpAnyH_at 10 #[true, true, true, true, true, true, true, false, false, false, false, false, false, false, false, false, false] (by kernel_rfl) (by kernel_rfl) ?_
        exact N3_00 X  hH
      · rw [if_pos (by rfl)]
        go_simp
        try simp only [sp_vrow]
        have V := heap_at W (.cells (vrow 266 Sh.zero.at) 36) _ rfl
        have m0 := row_lt hH.2.1
        have m1 := row_lt hH.2.2.1
        have m2 := row_lt hH.2.2.2
        replace hH : Below w.heap.size w (W.alloc (.cells (vrow 266 Sh.zero.at) 36)) ∧ (W.alloc (.cells (vrow 266 Sh.zero.at) 36)).heap[w.heap.size]? = some (.cells (vrow 266 s.at) 31) ∧ (W.alloc (.cells (vrow 266 Sh.zero.at) 36)).heap[w.heap.size + 1]? = some (.cells (vrow 5 b.at) 47) ∧ (W.alloc (.cells (vrow 266 Sh.zero.at) 36)).heap[w.heap.size + 2]? = some (.cells (vrow 2 (spAt x y)) 48) := ⟨hH.1.alloc hH.1.size _, heap_past _ _ _ _ m0 hH.2.1, heap_past _ _ _ _ m1 hH.2.2.1, heap_past _ _ _ _ m2 hH.2.2.2⟩
        refine hK.out _ _ hH (fun hH => ?_)
        clear hK K
        (try simp only [Act.put, List.setIfInBounds_toArray, List.set_cons_succ, List.set_cons_zero])
        refine wpAnyH_at 10 #[true, true, true, true, true, false, true, false, false, false, false, false, true, false, false, false, false] (by kernel_rfl) (by kernel_rfl) ?_
        exact N2_10 (W.alloc (.cells (vrow 266 Sh.zero.at) 36)) W.heap.size hH V m0 m1 m2
      · rw [if_pos (by rfl)]
        go_simp
        try simp only [sp_vrow]
        have V := heap_at W (.cells (vrow 5 Br.zero.at) 49) _ rfl
        have m0 := row_lt hH.2.1
        have m1 := row_lt hH.2.2.1
        have m2 := row_lt hH.2.2.2
        replace hH : Below w.heap.size w (W.alloc (.cells (vrow 5 Br.zero.at) 49)) ∧ (W.alloc (.cells (vrow 5 Br.zero.at) 49)).heap[w.heap.size]? = some (.cells (vrow 266 s.at) 31) ∧ (W.alloc (.cells (vrow 5 Br.zero.at) 49)).heap[w.heap.size + 1]? = some (.cells (vrow 5 b.at) 47) ∧ (W.alloc (.cells (vrow 5 Br.zero.at) 49)).heap[w.heap.size + 2]? = some (.cells (vrow 2 (spAt x y)) 48) := ⟨hH.1.alloc hH.1.size _, heap_past _ _ _ _ m0 hH.2.1, heap_past _ _ _ _ m1 hH.2.2.1, heap_past _ _ _ _ m2 hH.2.2.2⟩
        refine hK.out _ _ hH (fun hH => ?_)
        clear hK K
        (try simp only [Act.put, List.setIfInBounds_toArray, List.set_cons_succ, List.set_cons_zero])
        refine wpAnyH_at 10 #[true, true, true, true, true, false, true, false, false, false, false, false, false, true, false, false, false] (by kernel_rfl) (by kernel_rfl) ?_
        exact N2_01 (W.alloc (.cells (vrow 5 Br.zero.at) 49)) W.heap.size hH V m0 m1 m2
    have N1_11 : ∀ (W : World) (b0 : Nat) (b1 : Nat), (Below w.heap.size w W ∧ W.heap[w.heap.size]? = some (.cells (vrow 266 s.at) 31) ∧ W.heap[w.heap.size + 1]? = some (.cells (vrow 5 b.at) 47) ∧ W.heap[w.heap.size + 2]? = some (.cells (vrow 2 (spAt x y)) 48)) → W.heap[b0]? = some (.cells (vrow 266 Sh.zero.at) 36) → w.heap.size < b0 → w.heap.size + 1 < b0 → w.heap.size + 2 < b0 → W.heap[b1]? = some (.cells (vrow 5 Br.zero.at) 49) → w.heap.size < b1 → w.heap.size + 1 < b1 → w.heap.size + 2 < b1 → b0 ≠ b1 → wpAnyH Tryd.prog .any O QQ SS 10 #[true, true, true, false, true, false, true, false, false, false, false, false, true, true, false, false, false] { tmps := #[.agg (vrow 266 s.at), .agg (vrow 5 b.at), .agg (vrow 2 (spAt x y)), .int .i64 k, .pointer (some ⟨w.heap.size, 0, none⟩), .pointer (some ⟨w.heap.size + 1, 0, none⟩), .pointer (some ⟨w.heap.size + 2, 0, none⟩), undef, .bool false, .pointer (some ⟨b0, 0, none⟩), .pointer (some ⟨b1, 0, none⟩), undef, undef, undef, undef, undef, .agg (vrow 266 s.at), .agg (vrow 266 s.at), .agg (vrow 5 b.at), undef, .agg (vrow 2 (spAt x y)), undef, .int .i64 k, undef, undef, undef, undef, undef, undef, undef, undef, undef, undef, undef, undef, undef, undef, undef, undef, undef, undef, undef, undef, undef, undef, undef, undef, undef, undef, undef, undef, undef, undef, undef], defers := [] } W := by
      intro W b0 b1 hH V0 n0_0 n0_1 n0_2 V1 n1_0 n1_1 n1_2 d0_1
      subst hO hSS hQQ
      refine wpAnyH_ready (rs := [3]) (by kernel_rfl) (by simp) (AllReadyH.cons rfl (fun K hK => ?_) AllReadyH.nil)
      · rw [if_pos (by rfl)]
        go_simp
        go_at_call 23
        refine (HT1.out _).mono ?_
        rintro o X ⟨rfl, hb⟩
        replace hH : Below w.heap.size w X ∧ X.heap[w.heap.size]? = some (.cells (vrow 266 s.at) 31) ∧ X.heap[w.heap.size + 1]? = some (.cells (vrow 5 b.at) 47) ∧ X.heap[w.heap.size + 2]? = some (.cells (vrow 2 (spAt x y)) 48) := ⟨hH.1.trans (hb.mono hH.1.size), row_next hb hH.2.1, row_next hb hH.2.2.1, row_next hb hH.2.2.2⟩
        replace V0 := row_next hb V0
        replace V1 := row_next hb V1
        clear hb
        refine hK.out _ _ hH (fun hH => ?_)
        clear hK K
        (try simp only [Act.put, List.setIfInBounds_toArray, List.set_cons_succ, List.set_cons_zero])
        refine wpAnyH_at 9 #[true, true, true, true, true, false, true, false, false, false, false, false, true, true, false, false, false] (by kernel_rfl) (by kernel_rfl) ?_
        exact N2_11 X b0 b1 hH V0 n0_0 n0_1 n0_2 V1 n1_0 n1_1 n1_2 d0_1
    have N1_10 : ∀ (W : World) (b0 : Nat), (Below w.heap.size w W ∧ W.heap[w.heap.size]? = some (.cells (vrow 266 s.at) 31) ∧ W.heap[w.heap.size + 1]? = some (.cells (vrow 5 b.at) 47) ∧ W.heap[w.heap.size + 2]? = some (.cells (vrow 2 (spAt x y)) 48)) → W.heap[b0]? = some (.cells (vrow 266 Sh.zero.at) 36) → w.heap.size < b0 → w.heap.size + 1 < b0 → w.heap.size + 2 < b0 → wpAnyH Tryd.prog .any O QQ SS 11 #[true, true, true, false, true, false, true, false, false, false, false, false, true, false, false, false, false] { tmps := #[.agg (vrow 266 s.at), .agg (vrow 5 b.at), .agg (vrow 2 (spAt x y)), .int .i64 k, .pointer (some ⟨w.heap.size, 0, none⟩), .pointer (some ⟨w.heap.size + 1, 0, none⟩), .pointer (some ⟨w.heap.size + 2, 0, none⟩), undef, .bool false, .pointer (some ⟨b0, 0, none⟩), undef, undef, undef, undef, undef, undef, .agg (vrow 266 s.at), .agg (vrow 266 s.at), .agg (vrow 5 b.at), undef, .agg (vrow 2 (spAt x y)), undef, .int .i64 k, undef, undef, undef, undef, undef, undef, undef, undef, undef, undef, undef, undef, undef, undef, undef, undef, undef, undef, undef, undef, undef, undef, undef, undef, undef, undef, undef, undef, undef, undef, undef], defers := [] } W := by
      intro W b0 hH V0 n0_0 n0_1 n0_2
      subst hO hSS hQQ
      refine wpAnyH_ready (rs := [3, 13]) (by kernel_rfl) (by simp) (AllReadyH.cons rfl (fun K hK => ?_) (AllReadyH.cons rfl (fun K hK => ?_) AllReadyH.nil))
      · rw [if_pos (by rfl)]
        go_simp
        go_at_call 23
        refine (HT1.out _).mono ?_
        rintro o X ⟨rfl, hb⟩
        replace hH : Below w.heap.size w X ∧ X.heap[w.heap.size]? = some (.cells (vrow 266 s.at) 31) ∧ X.heap[w.heap.size + 1]? = some (.cells (vrow 5 b.at) 47) ∧ X.heap[w.heap.size + 2]? = some (.cells (vrow 2 (spAt x y)) 48) := ⟨hH.1.trans (hb.mono hH.1.size), row_next hb hH.2.1, row_next hb hH.2.2.1, row_next hb hH.2.2.2⟩
        replace V0 := row_next hb V0
        clear hb
        refine hK.out _ _ hH (fun hH => ?_)
        clear hK K
        (try simp only [Act.put, List.setIfInBounds_toArray, List.set_cons_succ, List.set_cons_zero])
        refine wpAnyH_at 10 #[true, true, true, true, true, false, true, false, false, false, false, false, true, false, false, false, false] (by kernel_rfl) (by kernel_rfl) ?_
        exact N2_10 X b0 hH V0 n0_0 n0_1 n0_2
      · rw [if_pos (by rfl)]
        go_simp
        try simp only [sp_vrow]
        have V := heap_at W (.cells (vrow 5 Br.zero.at) 49) _ rfl
        have m0 := row_lt hH.2.1
        have m1 := row_lt hH.2.2.1
        have m2 := row_lt hH.2.2.2
        have mm0 := row_lt V0
        replace V0 := heap_past _ (.cells (vrow 5 Br.zero.at) 49) _ _ mm0 V0
        replace hH : Below w.heap.size w (W.alloc (.cells (vrow 5 Br.zero.at) 49)) ∧ (W.alloc (.cells (vrow 5 Br.zero.at) 49)).heap[w.heap.size]? = some (.cells (vrow 266 s.at) 31) ∧ (W.alloc (.cells (vrow 5 Br.zero.at) 49)).heap[w.heap.size + 1]? = some (.cells (vrow 5 b.at) 47) ∧ (W.alloc (.cells (vrow 5 Br.zero.at) 49)).heap[w.heap.size + 2]? = some (.cells (vrow 2 (spAt x y)) 48) := ⟨hH.1.alloc hH.1.size _, heap_past _ _ _ _ m0 hH.2.1, heap_past _ _ _ _ m1 hH.2.2.1, heap_past _ _ _ _ m2 hH.2.2.2⟩
        refine hK.out _ _ hH (fun hH => ?_)
        clear hK K
        (try simp only [Act.put, List.setIfInBounds_toArray, List.set_cons_succ, List.set_cons_zero])
        refine wpAnyH_at 10 #[true, true, true, false, true, false, true, false, false, false, false, false, true, true, false, false, false] (by kernel_rfl) (by kernel_rfl) ?_
        exact N1_11 (W.alloc (.cells (vrow 5 Br.zero.at) 49)) b0 W.heap.size hH V0 n0_0 n0_1 n0_2 V m0 m1 m2 (by omega)
    have N1_01 : ∀ (W : World) (b1 : Nat), (Below w.heap.size w W ∧ W.heap[w.heap.size]? = some (.cells (vrow 266 s.at) 31) ∧ W.heap[w.heap.size + 1]? = some (.cells (vrow 5 b.at) 47) ∧ W.heap[w.heap.size + 2]? = some (.cells (vrow 2 (spAt x y)) 48)) → W.heap[b1]? = some (.cells (vrow 5 Br.zero.at) 49) → w.heap.size < b1 → w.heap.size + 1 < b1 → w.heap.size + 2 < b1 → wpAnyH Tryd.prog .any O QQ SS 11 #[true, true, true, false, true, false, true, false, false, false, false, false, false, true, false, false, false] { tmps := #[.agg (vrow 266 s.at), .agg (vrow 5 b.at), .agg (vrow 2 (spAt x y)), .int .i64 k, .pointer (some ⟨w.heap.size, 0, none⟩), .pointer (some ⟨w.heap.size + 1, 0, none⟩), .pointer (some ⟨w.heap.size + 2, 0, none⟩), undef, .bool false, undef, .pointer (some ⟨b1, 0, none⟩), undef, undef, undef, undef, undef, .agg (vrow 266 s.at), .agg (vrow 266 s.at), .agg (vrow 5 b.at), undef, .agg (vrow 2 (spAt x y)), undef, .int .i64 k, undef, undef, undef, undef, undef, undef, undef, undef, undef, undef, undef, undef, undef, undef, undef, undef, undef, undef, undef, undef, undef, undef, undef, undef, undef, undef, undef, undef, undef, undef, undef], defers := [] } W := by
      intro W b1 hH V1 n1_0 n1_1 n1_2
      subst hO hSS hQQ
      refine wpAnyH_ready (rs := [3, 12]) (by kernel_rfl) (by simp) (AllReadyH.cons rfl (fun K hK => ?_) (AllReadyH.cons rfl (fun K hK => ?_) AllReadyH.nil))
      · rw [if_pos (by rfl)]
        go_simp
        go_at_call 23
        refine (HT1.out _).mono ?_
        rintro o X ⟨rfl, hb⟩
        replace hH : Below w.heap.size w X ∧ X.heap[w.heap.size]? = some (.cells (vrow 266 s.at) 31) ∧ X.heap[w.heap.size + 1]? = some (.cells (vrow 5 b.at) 47) ∧ X.heap[w.heap.size + 2]? = some (.cells (vrow 2 (spAt x y)) 48) := ⟨hH.1.trans (hb.mono hH.1.size), row_next hb hH.2.1, row_next hb hH.2.2.1, row_next hb hH.2.2.2⟩
        replace V1 := row_next hb V1
        clear hb
        refine hK.out _ _ hH (fun hH => ?_)
        clear hK K
        (try simp only [Act.put, List.setIfInBounds_toArray, List.set_cons_succ, List.set_cons_zero])
        refine wpAnyH_at 10 #[true, true, true, true, true, false, true, false, false, false, false, false, false, true, false, false, false] (by kernel_rfl) (by kernel_rfl) ?_
        exact N2_01 X b1 hH V1 n1_0 n1_1 n1_2
      · rw [if_pos (by rfl)]
        go_simp
        try simp only [sp_vrow]
        have V := heap_at W (.cells (vrow 266 Sh.zero.at) 36) _ rfl
        have m0 := row_lt hH.2.1
        have m1 := row_lt hH.2.2.1
        have m2 := row_lt hH.2.2.2
        have mm1 := row_lt V1
        replace V1 := heap_past _ (.cells (vrow 266 Sh.zero.at) 36) _ _ mm1 V1
        replace hH : Below w.heap.size w (W.alloc (.cells (vrow 266 Sh.zero.at) 36)) ∧ (W.alloc (.cells (vrow 266 Sh.zero.at) 36)).heap[w.heap.size]? = some (.cells (vrow 266 s.at) 31) ∧ (W.alloc (.cells (vrow 266 Sh.zero.at) 36)).heap[w.heap.size + 1]? = some (.cells (vrow 5 b.at) 47) ∧ (W.alloc (.cells (vrow 266 Sh.zero.at) 36)).heap[w.heap.size + 2]? = some (.cells (vrow 2 (spAt x y)) 48) := ⟨hH.1.alloc hH.1.size _, heap_past _ _ _ _ m0 hH.2.1, heap_past _ _ _ _ m1 hH.2.2.1, heap_past _ _ _ _ m2 hH.2.2.2⟩
        refine hK.out _ _ hH (fun hH => ?_)
        clear hK K
        (try simp only [Act.put, List.setIfInBounds_toArray, List.set_cons_succ, List.set_cons_zero])
        refine wpAnyH_at 10 #[true, true, true, false, true, false, true, false, false, false, false, false, true, true, false, false, false] (by kernel_rfl) (by kernel_rfl) ?_
        exact N1_11 (W.alloc (.cells (vrow 266 Sh.zero.at) 36)) W.heap.size b1 hH V m0 m1 m2 V1 n1_0 n1_1 n1_2 (by omega)
    have N1_00 : ∀ (W : World), (Below w.heap.size w W ∧ W.heap[w.heap.size]? = some (.cells (vrow 266 s.at) 31) ∧ W.heap[w.heap.size + 1]? = some (.cells (vrow 5 b.at) 47) ∧ W.heap[w.heap.size + 2]? = some (.cells (vrow 2 (spAt x y)) 48)) → wpAnyH Tryd.prog .any O QQ SS 12 #[true, true, true, false, true, false, true, false, false, false, false, false, false, false, false, false, false] { tmps := #[.agg (vrow 266 s.at), .agg (vrow 5 b.at), .agg (vrow 2 (spAt x y)), .int .i64 k, .pointer (some ⟨w.heap.size, 0, none⟩), .pointer (some ⟨w.heap.size + 1, 0, none⟩), .pointer (some ⟨w.heap.size + 2, 0, none⟩), undef, .bool false, undef, undef, undef, undef, undef, undef, undef, .agg (vrow 266 s.at), .agg (vrow 266 s.at), .agg (vrow 5 b.at), undef, .agg (vrow 2 (spAt x y)), undef, .int .i64 k, undef, undef, undef, undef, undef, undef, undef, undef, undef, undef, undef, undef, undef, undef, undef, undef, undef, undef, undef, undef, undef, undef, undef, undef, undef, undef, undef, undef, undef, undef, undef], defers := [] } W := by
      intro W hH
      subst hO hSS hQQ
      refine wpAnyH_ready (rs := [3, 12, 13]) (by kernel_rfl) (by simp) (AllReadyH.cons rfl (fun K hK => ?_) (AllReadyH.cons rfl (fun K hK => ?_) (AllReadyH.cons rfl (fun K hK => ?_) AllReadyH.nil)))
      · rw [if_pos (by rfl)]
        go_simp
        go_at_call 23
        refine (HT1.out _).mono ?_
        rintro o X ⟨rfl, hb⟩
        replace hH : Below w.heap.size w X ∧ X.heap[w.heap.size]? = some (.cells (vrow 266 s.at) 31) ∧ X.heap[w.heap.size + 1]? = some (.cells (vrow 5 b.at) 47) ∧ X.heap[w.heap.size + 2]? = some (.cells (vrow 2 (spAt x y)) 48) := ⟨hH.1.trans (hb.mono hH.1.size), row_next hb hH.2.1, row_next hb hH.2.2.1, row_next hb hH.2.2.2⟩
        clear hb
        refine hK.out _ _ hH (fun hH => ?_)
        clear hK K
        (try simp only [Act.put, List.setIfInBounds_toArray, List.set_cons_succ, List.set_cons_zero])
        refine wpAnyH_at 11 #[true, true, true, true, true, false, true, false, false, false, false, false, false, false, false, false, false] (by kernel_rfl) (by kernel_rfl) ?_
        exact N2_00 X  hH
      · rw [if_pos (by rfl)]
        go_simp
        try simp only [sp_vrow]
        have V := heap_at W (.cells (vrow 266 Sh.zero.at) 36) _ rfl
        have m0 := row_lt hH.2.1
        have m1 := row_lt hH.2.2.1
        have m2 := row_lt hH.2.2.2
        replace hH : Below w.heap.size w (W.alloc (.cells (vrow 266 Sh.zero.at) 36)) ∧ (W.alloc (.cells (vrow 266 Sh.zero.at) 36)).heap[w.heap.size]? = some (.cells (vrow 266 s.at) 31) ∧ (W.alloc (.cells (vrow 266 Sh.zero.at) 36)).heap[w.heap.size + 1]? = some (.cells (vrow 5 b.at) 47) ∧ (W.alloc (.cells (vrow 266 Sh.zero.at) 36)).heap[w.heap.size + 2]? = some (.cells (vrow 2 (spAt x y)) 48) := ⟨hH.1.alloc hH.1.size _, heap_past _ _ _ _ m0 hH.2.1, heap_past _ _ _ _ m1 hH.2.2.1, heap_past _ _ _ _ m2 hH.2.2.2⟩
        refine hK.out _ _ hH (fun hH => ?_)
        clear hK K
        (try simp only [Act.put, List.setIfInBounds_toArray, List.set_cons_succ, List.set_cons_zero])
        refine wpAnyH_at 11 #[true, true, true, false, true, false, true, false, false, false, false, false, true, false, false, false, false] (by kernel_rfl) (by kernel_rfl) ?_
        exact N1_10 (W.alloc (.cells (vrow 266 Sh.zero.at) 36)) W.heap.size hH V m0 m1 m2
      · rw [if_pos (by rfl)]
        go_simp
        try simp only [sp_vrow]
        have V := heap_at W (.cells (vrow 5 Br.zero.at) 49) _ rfl
        have m0 := row_lt hH.2.1
        have m1 := row_lt hH.2.2.1
        have m2 := row_lt hH.2.2.2
        replace hH : Below w.heap.size w (W.alloc (.cells (vrow 5 Br.zero.at) 49)) ∧ (W.alloc (.cells (vrow 5 Br.zero.at) 49)).heap[w.heap.size]? = some (.cells (vrow 266 s.at) 31) ∧ (W.alloc (.cells (vrow 5 Br.zero.at) 49)).heap[w.heap.size + 1]? = some (.cells (vrow 5 b.at) 47) ∧ (W.alloc (.cells (vrow 5 Br.zero.at) 49)).heap[w.heap.size + 2]? = some (.cells (vrow 2 (spAt x y)) 48) := ⟨hH.1.alloc hH.1.size _, heap_past _ _ _ _ m0 hH.2.1, heap_past _ _ _ _ m1 hH.2.2.1, heap_past _ _ _ _ m2 hH.2.2.2⟩
        refine hK.out _ _ hH (fun hH => ?_)
        clear hK K
        (try simp only [Act.put, List.setIfInBounds_toArray, List.set_cons_succ, List.set_cons_zero])
        refine wpAnyH_at 11 #[true, true, true, false, true, false, true, false, false, false, false, false, false, true, false, false, false] (by kernel_rfl) (by kernel_rfl) ?_
        exact N1_01 (W.alloc (.cells (vrow 5 Br.zero.at) 49)) W.heap.size hH V m0 m1 m2
    have N0_11 : ∀ (W : World) (b0 : Nat) (b1 : Nat), (Below w.heap.size w W ∧ W.heap[w.heap.size]? = some (.cells (vrow 266 s.at) 31) ∧ W.heap[w.heap.size + 1]? = some (.cells (vrow 5 b.at) 47) ∧ W.heap[w.heap.size + 2]? = some (.cells (vrow 2 (spAt x y)) 48)) → W.heap[b0]? = some (.cells (vrow 266 Sh.zero.at) 36) → w.heap.size < b0 → w.heap.size + 1 < b0 → w.heap.size + 2 < b0 → W.heap[b1]? = some (.cells (vrow 5 Br.zero.at) 49) → w.heap.size < b1 → w.heap.size + 1 < b1 → w.heap.size + 2 < b1 → b0 ≠ b1 → wpAnyH Tryd.prog .any O QQ SS 11 #[true, false, true, false, true, false, true, false, false, false, false, false, true, true, false, false, false] { tmps := #[.agg (vrow 266 s.at), .agg (vrow 5 b.at), .agg (vrow 2 (spAt x y)), .int .i64 k, .pointer (some ⟨w.heap.size, 0, none⟩), .pointer (some ⟨w.heap.size + 1, 0, none⟩), .pointer (some ⟨w.heap.size + 2, 0, none⟩), undef, .bool false, .pointer (some ⟨b0, 0, none⟩), .pointer (some ⟨b1, 0, none⟩), undef, undef, undef, undef, undef, .agg (vrow 266 s.at), undef, .agg (vrow 5 b.at), undef, .agg (vrow 2 (spAt x y)), undef, .int .i64 k, undef, undef, undef, undef, undef, undef, undef, undef, undef, undef, undef, undef, undef, undef, undef, undef, undef, undef, undef, undef, undef, undef, undef, undef, undef, undef, undef, undef, undef, undef, undef], defers := [] } W := by
      intro W b0 b1 hH V0 n0_0 n0_1 n0_2 V1 n1_0 n1_1 n1_2 d0_1
      subst hO hSS hQQ
      refine wpAnyH_ready (rs := [1]) (by kernel_rfl) (by simp) (AllReadyH.cons rfl (fun K hK => ?_) AllReadyH.nil)
      · rw [if_pos (by rfl)]
        go_simp
        go_at_call 15
        refine (HT0.out _).mono ?_
        rintro o X ⟨rfl, hb⟩
        replace hH : Below w.heap.size w X ∧ X.heap[w.heap.size]? = some (.cells (vrow 266 s.at) 31) ∧ X.heap[w.heap.size + 1]? = some (.cells (vrow 5 b.at) 47) ∧ X.heap[w.heap.size + 2]? = some (.cells (vrow 2 (spAt x y)) 48) := ⟨hH.1.trans (hb.mono hH.1.size), row_next hb hH.2.1, row_next hb hH.2.2.1, row_next hb hH.2.2.2⟩
        replace V0 := row_next hb V0
        replace V1 := row_next hb V1
        clear hb
        refine hK.out _ _ hH (fun hH => ?_)
        clear hK K
        (try simp only [Act.put, List.setIfInBounds_toArray, List.set_cons_succ, List.set_cons_zero])
        refine wpAnyH_at 10 #[true, true, true, false, true, false, true, false, false, false, false, false, true, true, false, false, false] (by kernel_rfl) (by kernel_rfl) ?_
        exact N1_11 X b0 b1 hH V0 n0_0 n0_1 n0_2 V1 n1_0 n1_1 n1_2 d0_1
    have N0_10 : ∀ (W : World) (b0 : Nat), (Below w.heap.size w W ∧ W.heap[w.heap.size]? = some (.cells (vrow 266 s.at) 31) ∧ W.heap[w.heap.size + 1]? = some (.cells (vrow 5 b.at) 47) ∧ W.heap[w.heap.size + 2]? = some (.cells (vrow 2 (spAt x y)) 48)) → W.heap[b0]? = some (.cells (vrow 266 Sh.zero.at) 36) → w.heap.size < b0 → w.heap.size + 1 < b0 → w.heap.size + 2 < b0 → wpAnyH Tryd.prog .any O QQ SS 12 #[true, false, true, false, true, false, true, false, false, false, false, false, true, false, false, false, false] { tmps := #[.agg (vrow 266 s.at), .agg (vrow 5 b.at), .agg (vrow 2 (spAt x y)), .int .i64 k, .pointer (some ⟨w.heap.size, 0, none⟩), .pointer (some ⟨w.heap.size + 1, 0, none⟩), .pointer (some ⟨w.heap.size + 2, 0, none⟩), undef, .bool false, .pointer (some ⟨b0, 0, none⟩), undef, undef, undef, undef, undef, undef, .agg (vrow 266 s.at), undef, .agg (vrow 5 b.at), undef, .agg (vrow 2 (spAt x y)), undef, .int .i64 k, undef, undef, undef, undef, undef, undef, undef, undef, undef, undef, undef, undef, undef, undef, undef, undef, undef, undef, undef, undef, undef, undef, undef, undef, undef, undef, undef, undef, undef, undef, undef], defers := [] } W := by
      intro W b0 hH V0 n0_0 n0_1 n0_2
      subst hO hSS hQQ
      refine wpAnyH_ready (rs := [1, 13]) (by kernel_rfl) (by simp) (AllReadyH.cons rfl (fun K hK => ?_) (AllReadyH.cons rfl (fun K hK => ?_) AllReadyH.nil))
      · rw [if_pos (by rfl)]
        go_simp
        go_at_call 15
        refine (HT0.out _).mono ?_
        rintro o X ⟨rfl, hb⟩
        replace hH : Below w.heap.size w X ∧ X.heap[w.heap.size]? = some (.cells (vrow 266 s.at) 31) ∧ X.heap[w.heap.size + 1]? = some (.cells (vrow 5 b.at) 47) ∧ X.heap[w.heap.size + 2]? = some (.cells (vrow 2 (spAt x y)) 48) := ⟨hH.1.trans (hb.mono hH.1.size), row_next hb hH.2.1, row_next hb hH.2.2.1, row_next hb hH.2.2.2⟩
        replace V0 := row_next hb V0
        clear hb
        refine hK.out _ _ hH (fun hH => ?_)
        clear hK K
        (try simp only [Act.put, List.setIfInBounds_toArray, List.set_cons_succ, List.set_cons_zero])
        refine wpAnyH_at 11 #[true, true, true, false, true, false, true, false, false, false, false, false, true, false, false, false, false] (by kernel_rfl) (by kernel_rfl) ?_
        exact N1_10 X b0 hH V0 n0_0 n0_1 n0_2
      · rw [if_pos (by rfl)]
        go_simp
        try simp only [sp_vrow]
        have V := heap_at W (.cells (vrow 5 Br.zero.at) 49) _ rfl
        have m0 := row_lt hH.2.1
        have m1 := row_lt hH.2.2.1
        have m2 := row_lt hH.2.2.2
        have mm0 := row_lt V0
        replace V0 := heap_past _ (.cells (vrow 5 Br.zero.at) 49) _ _ mm0 V0
        replace hH : Below w.heap.size w (W.alloc (.cells (vrow 5 Br.zero.at) 49)) ∧ (W.alloc (.cells (vrow 5 Br.zero.at) 49)).heap[w.heap.size]? = some (.cells (vrow 266 s.at) 31) ∧ (W.alloc (.cells (vrow 5 Br.zero.at) 49)).heap[w.heap.size + 1]? = some (.cells (vrow 5 b.at) 47) ∧ (W.alloc (.cells (vrow 5 Br.zero.at) 49)).heap[w.heap.size + 2]? = some (.cells (vrow 2 (spAt x y)) 48) := ⟨hH.1.alloc hH.1.size _, heap_past _ _ _ _ m0 hH.2.1, heap_past _ _ _ _ m1 hH.2.2.1, heap_past _ _ _ _ m2 hH.2.2.2⟩
        refine hK.out _ _ hH (fun hH => ?_)
        clear hK K
        (try simp only [Act.put, List.setIfInBounds_toArray, List.set_cons_succ, List.set_cons_zero])
        refine wpAnyH_at 11 #[true, false, true, false, true, false, true, false, false, false, false, false, true, true, false, false, false] (by kernel_rfl) (by kernel_rfl) ?_
        exact N0_11 (W.alloc (.cells (vrow 5 Br.zero.at) 49)) b0 W.heap.size hH V0 n0_0 n0_1 n0_2 V m0 m1 m2 (by omega)
    have N0_01 : ∀ (W : World) (b1 : Nat), (Below w.heap.size w W ∧ W.heap[w.heap.size]? = some (.cells (vrow 266 s.at) 31) ∧ W.heap[w.heap.size + 1]? = some (.cells (vrow 5 b.at) 47) ∧ W.heap[w.heap.size + 2]? = some (.cells (vrow 2 (spAt x y)) 48)) → W.heap[b1]? = some (.cells (vrow 5 Br.zero.at) 49) → w.heap.size < b1 → w.heap.size + 1 < b1 → w.heap.size + 2 < b1 → wpAnyH Tryd.prog .any O QQ SS 12 #[true, false, true, false, true, false, true, false, false, false, false, false, false, true, false, false, false] { tmps := #[.agg (vrow 266 s.at), .agg (vrow 5 b.at), .agg (vrow 2 (spAt x y)), .int .i64 k, .pointer (some ⟨w.heap.size, 0, none⟩), .pointer (some ⟨w.heap.size + 1, 0, none⟩), .pointer (some ⟨w.heap.size + 2, 0, none⟩), undef, .bool false, undef, .pointer (some ⟨b1, 0, none⟩), undef, undef, undef, undef, undef, .agg (vrow 266 s.at), undef, .agg (vrow 5 b.at), undef, .agg (vrow 2 (spAt x y)), undef, .int .i64 k, undef, undef, undef, undef, undef, undef, undef, undef, undef, undef, undef, undef, undef, undef, undef, undef, undef, undef, undef, undef, undef, undef, undef, undef, undef, undef, undef, undef, undef, undef, undef], defers := [] } W := by
      intro W b1 hH V1 n1_0 n1_1 n1_2
      subst hO hSS hQQ
      refine wpAnyH_ready (rs := [1, 12]) (by kernel_rfl) (by simp) (AllReadyH.cons rfl (fun K hK => ?_) (AllReadyH.cons rfl (fun K hK => ?_) AllReadyH.nil))
      · rw [if_pos (by rfl)]
        go_simp
        go_at_call 15
        refine (HT0.out _).mono ?_
        rintro o X ⟨rfl, hb⟩
        replace hH : Below w.heap.size w X ∧ X.heap[w.heap.size]? = some (.cells (vrow 266 s.at) 31) ∧ X.heap[w.heap.size + 1]? = some (.cells (vrow 5 b.at) 47) ∧ X.heap[w.heap.size + 2]? = some (.cells (vrow 2 (spAt x y)) 48) := ⟨hH.1.trans (hb.mono hH.1.size), row_next hb hH.2.1, row_next hb hH.2.2.1, row_next hb hH.2.2.2⟩
        replace V1 := row_next hb V1
        clear hb
        refine hK.out _ _ hH (fun hH => ?_)
        clear hK K
        (try simp only [Act.put, List.setIfInBounds_toArray, List.set_cons_succ, List.set_cons_zero])
        refine wpAnyH_at 11 #[true, true, true, false, true, false, true, false, false, false, false, false, false, true, false, false, false] (by kernel_rfl) (by kernel_rfl) ?_
        exact N1_01 X b1 hH V1 n1_0 n1_1 n1_2
      · rw [if_pos (by rfl)]
        go_simp
        try simp only [sp_vrow]
        have V := heap_at W (.cells (vrow 266 Sh.zero.at) 36) _ rfl
        have m0 := row_lt hH.2.1
        have m1 := row_lt hH.2.2.1
        have m2 := row_lt hH.2.2.2
        have mm1 := row_lt V1
        replace V1 := heap_past _ (.cells (vrow 266 Sh.zero.at) 36) _ _ mm1 V1
        replace hH : Below w.heap.size w (W.alloc (.cells (vrow 266 Sh.zero.at) 36)) ∧ (W.alloc (.cells (vrow 266 Sh.zero.at) 36)).heap[w.heap.size]? = some (.cells (vrow 266 s.at) 31) ∧ (W.alloc (.cells (vrow 266 Sh.zero.at) 36)).heap[w.heap.size + 1]? = some (.cells (vrow 5 b.at) 47) ∧ (W.alloc (.cells (vrow 266 Sh.zero.at) 36)).heap[w.heap.size + 2]? = some (.cells (vrow 2 (spAt x y)) 48) := ⟨hH.1.alloc hH.1.size _, heap_past _ _ _ _ m0 hH.2.1, heap_past _ _ _ _ m1 hH.2.2.1, heap_past _ _ _ _ m2 hH.2.2.2⟩
        refine hK.out _ _ hH (fun hH => ?_)
        clear hK K
        (try simp only [Act.put, List.setIfInBounds_toArray, List.set_cons_succ, List.set_cons_zero])
        refine wpAnyH_at 11 #[true, false, true, false, true, false, true, false, false, false, false, false, true, true, false, false, false] (by kernel_rfl) (by kernel_rfl) ?_
        exact N0_11 (W.alloc (.cells (vrow 266 Sh.zero.at) 36)) W.heap.size b1 hH V m0 m1 m2 V1 n1_0 n1_1 n1_2 (by omega)
    have N0_00 : ∀ (W : World), (Below w.heap.size w W ∧ W.heap[w.heap.size]? = some (.cells (vrow 266 s.at) 31) ∧ W.heap[w.heap.size + 1]? = some (.cells (vrow 5 b.at) 47) ∧ W.heap[w.heap.size + 2]? = some (.cells (vrow 2 (spAt x y)) 48)) → wpAnyH Tryd.prog .any O QQ SS 13 #[true, false, true, false, true, false, true, false, false, false, false, false, false, false, false, false, false] { tmps := #[.agg (vrow 266 s.at), .agg (vrow 5 b.at), .agg (vrow 2 (spAt x y)), .int .i64 k, .pointer (some ⟨w.heap.size, 0, none⟩), .pointer (some ⟨w.heap.size + 1, 0, none⟩), .pointer (some ⟨w.heap.size + 2, 0, none⟩), undef, .bool false, undef, undef, undef, undef, undef, undef, undef, .agg (vrow 266 s.at), undef, .agg (vrow 5 b.at), undef, .agg (vrow 2 (spAt x y)), undef, .int .i64 k, undef, undef, undef, undef, undef, undef, undef, undef, undef, undef, undef, undef, undef, undef, undef, undef, undef, undef, undef, undef, undef, undef, undef, undef, undef, undef, undef, undef, undef, undef, undef], defers := [] } W := by
      intro W hH
      subst hO hSS hQQ
      refine wpAnyH_ready (rs := [1, 12, 13]) (by kernel_rfl) (by simp) (AllReadyH.cons rfl (fun K hK => ?_) (AllReadyH.cons rfl (fun K hK => ?_) (AllReadyH.cons rfl (fun K hK => ?_) AllReadyH.nil)))
      · rw [if_pos (by rfl)]
        go_simp
        go_at_call 15
        refine (HT0.out _).mono ?_
        rintro o X ⟨rfl, hb⟩
        replace hH : Below w.heap.size w X ∧ X.heap[w.heap.size]? = some (.cells (vrow 266 s.at) 31) ∧ X.heap[w.heap.size + 1]? = some (.cells (vrow 5 b.at) 47) ∧ X.heap[w.heap.size + 2]? = some (.cells (vrow 2 (spAt x y)) 48) := ⟨hH.1.trans (hb.mono hH.1.size), row_next hb hH.2.1, row_next hb hH.2.2.1, row_next hb hH.2.2.2⟩
        clear hb
        refine hK.out _ _ hH (fun hH => ?_)
        clear hK K
        (try simp only [Act.put, List.setIfInBounds_toArray, List.set_cons_succ, List.set_cons_zero])
        refine wpAnyH_at 12 #[true, true, true, false, true, false, true, false, false, false, false, false, false, false, false, false, false] (by kernel_rfl) (by kernel_rfl) ?_
        exact N1_00 X  hH
      · rw [if_pos (by rfl)]
        go_simp
        try simp only [sp_vrow]
        have V := heap_at W (.cells (vrow 266 Sh.zero.at) 36) _ rfl
        have m0 := row_lt hH.2.1
        have m1 := row_lt hH.2.2.1
        have m2 := row_lt hH.2.2.2
        replace hH : Below w.heap.size w (W.alloc (.cells (vrow 266 Sh.zero.at) 36)) ∧ (W.alloc (.cells (vrow 266 Sh.zero.at) 36)).heap[w.heap.size]? = some (.cells (vrow 266 s.at) 31) ∧ (W.alloc (.cells (vrow 266 Sh.zero.at) 36)).heap[w.heap.size + 1]? = some (.cells (vrow 5 b.at) 47) ∧ (W.alloc (.cells (vrow 266 Sh.zero.at) 36)).heap[w.heap.size + 2]? = some (.cells (vrow 2 (spAt x y)) 48) := ⟨hH.1.alloc hH.1.size _, heap_past _ _ _ _ m0 hH.2.1, heap_past _ _ _ _ m1 hH.2.2.1, heap_past _ _ _ _ m2 hH.2.2.2⟩
        refine hK.out _ _ hH (fun hH => ?_)
        clear hK K
        (try simp only [Act.put, List.setIfInBounds_toArray, List.set_cons_succ, List.set_cons_zero])
        refine wpAnyH_at 12 #[true, false, true, false, true, false, true, false, false, false, false, false, true, false, false, false, false] (by kernel_rfl) (by kernel_rfl) ?_
        exact N0_10 (W.alloc (.cells (vrow 266 Sh.zero.at) 36)) W.heap.size hH V m0 m1 m2
      · rw [if_pos (by rfl)]
        go_simp
        try simp only [sp_vrow]
        have V := heap_at W (.cells (vrow 5 Br.zero.at) 49) _ rfl
        have m0 := row_lt hH.2.1
        have m1 := row_lt hH.2.2.1
        have m2 := row_lt hH.2.2.2
        replace hH : Below w.heap.size w (W.alloc (.cells (vrow 5 Br.zero.at) 49)) ∧ (W.alloc (.cells (vrow 5 Br.zero.at) 49)).heap[w.heap.size]? = some (.cells (vrow 266 s.at) 31) ∧ (W.alloc (.cells (vrow 5 Br.zero.at) 49)).heap[w.heap.size + 1]? = some (.cells (vrow 5 b.at) 47) ∧ (W.alloc (.cells (vrow 5 Br.zero.at) 49)).heap[w.heap.size + 2]? = some (.cells (vrow 2 (spAt x y)) 48) := ⟨hH.1.alloc hH.1.size _, heap_past _ _ _ _ m0 hH.2.1, heap_past _ _ _ _ m1 hH.2.2.1, heap_past _ _ _ _ m2 hH.2.2.2⟩
        refine hK.out _ _ hH (fun hH => ?_)
        clear hK K
        (try simp only [Act.put, List.setIfInBounds_toArray, List.set_cons_succ, List.set_cons_zero])
        refine wpAnyH_at 12 #[true, false, true, false, true, false, true, false, false, false, false, false, false, true, false, false, false] (by kernel_rfl) (by kernel_rfl) ?_
        exact N0_01 (W.alloc (.cells (vrow 5 Br.zero.at) 49)) W.heap.size hH V m0 m1 m2
    subst hO hSS hQQ
    refine wp_region_held_drew (S := fun W' => Below w.heap.size w W' ∧ W'.heap[w.heap.size]? = some (.cells (vrow 266 s.at) 31) ∧ W'.heap[w.heap.size + 1]? = some (.cells (vrow 5 b.at) 47) ∧ W'.heap[w.heap.size + 2]? = some (.cells (vrow 2 (spAt x y)) 48)) (by kernel_rfl) ⟨hB.out.drew, P0.out, P1.out, P2.out⟩ (fun hH => ?_)
    generalize World.drew _ = W at hH ⊢
    refine wpAnyH_take (i := 0) (v := (.agg (vrow 266 s.at))) rfl (by kernel_rfl) (by kernel_rfl) (by kernel_rfl) (fun _ _ _ h => by cases h.1) (yields_row (by rfl) 31 _ rfl (w.heap.size) rfl 266 s.at 31 _ Tryd.underlying31 rfl size_lsheet (fun _ h => h.2.1)) hH ?_
    (try simp only [Act.put, List.setIfInBounds_toArray, List.set_cons_succ, List.set_cons_zero])
    refine wpAnyH_take (i := 2) (v := (.agg (vrow 5 b.at))) rfl (by kernel_rfl) (by kernel_rfl) (by kernel_rfl) (fun _ _ _ h => by cases h.1) (yields_row (by rfl) 47 _ rfl (w.heap.size + 1) rfl 5 b.at 47 _ Tryd.underlying47 rfl size_lbr (fun _ h => h.2.2.1)) hH ?_
    (try simp only [Act.put, List.setIfInBounds_toArray, List.set_cons_succ, List.set_cons_zero])
    refine wpAnyH_take (i := 4) (v := (.agg (vrow 2 (spAt x y)))) rfl (by kernel_rfl) (by kernel_rfl) (by kernel_rfl) (fun _ _ _ h => by cases h.1) (yields_row (by rfl) 48 _ rfl (w.heap.size + 2) rfl 2 (spAt x y) 48 _ Tryd.underlying48 rfl size_lspot (fun _ h => h.2.2.2)) hH ?_
    (try simp only [Act.put, List.setIfInBounds_toArray, List.set_cons_succ, List.set_cons_zero])
    refine wpAnyH_take (i := 6) (v := (.int .i64 k)) rfl (by kernel_rfl) (by kernel_rfl) (by kernel_rfl) (fun _ _ _ h => by cases h.1) (.inl ⟨by rfl, fun w _ => by go_simp⟩) hH ?_
    (try simp only [Act.put, List.setIfInBounds_toArray, List.set_cons_succ, List.set_cons_zero])
    refine wpAnyH_at 13 #[true, false, true, false, true, false, true, false, false, false, false, false, false, false, false, false, false] (by kernel_rfl) (by kernel_rfl) ?_
    exact N0_00 W hH
  rintro e1 a1 W1 ⟨rfl, b0, b1, rfl, ⟨hB, P0, P1, P2⟩, U0, U1⟩
  replace hB := Go.Lib.hid hB; replace P0 := Go.Lib.hid P0; replace P1 := Go.Lib.hid P1; replace P2 := Go.Lib.hid P2; replace U0 := Go.Lib.hid U0; replace U1 := Go.Lib.hid U1
  go_wp2
  refine Code.wp_mono (Q := fun e a' W' => e = .normal ∧ ∃ c0 c1, a' = { tmps := #[.agg (vrow 266 s.at), .agg (vrow 5 b.at), .agg (vrow 2 (spAt x y)), .int .i64 k, .pointer (some ⟨w.heap.size, 0, none⟩), .pointer (some ⟨w.heap.size + 1, 0, none⟩), .pointer (some ⟨w.heap.size + 2, 0, none⟩), undef, .bool false, .pointer (some ⟨b0, 0, none⟩), .pointer (some ⟨b1, 0, none⟩), .int .i64 c, .pointer (some ⟨c0, 0, none⟩), .pointer (some ⟨c1, 0, none⟩), .int .i64 c, .tuple #[.agg (vrow 266 r.at), .agg (vrow 5 q.at), .int .i64 c], .agg (vrow 266 s.at), .agg (vrow 266 s.at), .agg (vrow 5 b.at), .agg (vrow 5 b.at), .agg (vrow 2 (spAt x y)), .agg (vrow 2 (spAt x y)), .int .i64 k, .tuple #[.agg (vrow 266 r.at), .agg (vrow 5 q.at), .int .i64 c], .agg (vrow 266 r.at), .agg (vrow 5 q.at), .int .i64 c, .tuple #[.agg (vrow 266 r.at), .agg (vrow 5 q.at), .int .i64 c], .agg (vrow 266 s.at), .agg (vrow 266 s.at), .agg (vrow 5 b.at), .agg (vrow 5 b.at), .agg (vrow 2 (spAt x y)), .agg (vrow 2 (spAt x y)), .int .i64 k, .tuple #[.agg (vrow 266 r.at), .agg (vrow 5 q.at), .int .i64 c], .agg (vrow 266 r.at), .agg (vrow 5 q.at), .int .i64 c, undef, undef, undef, undef, undef, undef, undef, undef, undef, undef, undef, undef, undef, undef, undef], defers := [] } ∧ (Below w.heap.size w W' ∧ W'.heap[w.heap.size]? = some (.cells (vrow 266 s.at) 31) ∧ W'.heap[w.heap.size + 1]? = some (.cells (vrow 5 b.at) 47) ∧ W'.heap[w.heap.size + 2]? = some (.cells (vrow 2 (spAt x y)) 48) ∧ W'.heap[b0]? = some (.cells (vrow 266 r.at) 36) ∧ W'.heap[b1]? = some (.cells (vrow 5 q.at) 49)) ∧ W'.heap[c0]? = some (.cells (vrow 266 r.at) 36) ∧ W'.heap[c1]? = some (.cells (vrow 5 q.at) 49)) ?_ ?_
  rotate_left
  · refine region_gen (fun O hO => ?_)
    obtain ⟨SS, hSS⟩ : ∃ zS : World → Prop, zS = (fun W' => Below w.heap.size w W' ∧ W'.heap[w.heap.size]? = some (.cells (vrow 266 s.at) 31) ∧ W'.heap[w.heap.size + 1]? = some (.cells (vrow 5 b.at) 47) ∧ W'.heap[w.heap.size + 2]? = some (.cells (vrow 2 (spAt x y)) 48) ∧ W'.heap[b0]? = some (.cells (vrow 266 r.at) 36) ∧ W'.heap[b1]? = some (.cells (vrow 5 q.at) 49)) := ⟨_, rfl⟩
    obtain ⟨QQ, hQQ⟩ : ∃ zQ : Exit → Act → World → Prop, zQ = (fun e a' W' => e = .normal ∧ ∃ c0 c1, a' = { tmps := #[.agg (vrow 266 s.at), .agg (vrow 5 b.at), .agg (vrow 2 (spAt x y)), .int .i64 k, .pointer (some ⟨w.heap.size, 0, none⟩), .pointer (some ⟨w.heap.size + 1, 0, none⟩), .pointer (some ⟨w.heap.size + 2, 0, none⟩), undef, .bool false, .pointer (some ⟨b0, 0, none⟩), .pointer (some ⟨b1, 0, none⟩), .int .i64 c, .pointer (some ⟨c0, 0, none⟩), .pointer (some ⟨c1, 0, none⟩), .int .i64 c, .tuple #[.agg (vrow 266 r.at), .agg (vrow 5 q.at), .int .i64 c], .agg (vrow 266 s.at), .agg (vrow 266 s.at), .agg (vrow 5 b.at), .agg (vrow 5 b.at), .agg (vrow 2 (spAt x y)), .agg (vrow 2 (spAt x y)), .int .i64 k, .tuple #[.agg (vrow 266 r.at), .agg (vrow 5 q.at), .int .i64 c], .agg (vrow 266 r.at), .agg (vrow 5 q.at), .int .i64 c, .tuple #[.agg (vrow 266 r.at), .agg (vrow 5 q.at), .int .i64 c], .agg (vrow 266 s.at), .agg (vrow 266 s.at), .agg (vrow 5 b.at), .agg (vrow 5 b.at), .agg (vrow 2 (spAt x y)), .agg (vrow 2 (spAt x y)), .int .i64 k, .tuple #[.agg (vrow 266 r.at), .agg (vrow 5 q.at), .int .i64 c], .agg (vrow 266 r.at), .agg (vrow 5 q.at), .int .i64 c, undef, undef, undef, undef, undef, undef, undef, undef, undef, undef, undef, undef, undef, undef, undef], defers := [] } ∧ (Below w.heap.size w W' ∧ W'.heap[w.heap.size]? = some (.cells (vrow 266 s.at) 31) ∧ W'.heap[w.heap.size + 1]? = some (.cells (vrow 5 b.at) 47) ∧ W'.heap[w.heap.size + 2]? = some (.cells (vrow 2 (spAt x y)) 48) ∧ W'.heap[b0]? = some (.cells (vrow 266 r.at) 36) ∧ W'.heap[b1]? = some (.cells (vrow 5 q.at) 49)) ∧ W'.heap[c0]? = some (.cells (vrow 266 r.at) 36) ∧ W'.heap[c1]? = some (.cells (vrow 5 q.at) 49)) := ⟨_, rfl⟩
    rw [← hQQ]
    have M4_11 : ∀ (W : World) (c0 : Nat) (c1 : Nat), (Below w.heap.size w W ∧ W.heap[w.heap.size]? = some (.cells (vrow 266 s.at) 31) ∧ W.heap[w.heap.size + 1]? = some (.cells (vrow 5 b.at) 47) ∧ W.heap[w.heap.size + 2]? = some (.cells (vrow 2 (spAt x y)) 48) ∧ W.heap[b0]? = some (.cells (vrow 266 r.at) 36) ∧ W.heap[b1]? = some (.cells (vrow 5 q.at) 49)) → W.heap[c0]? = some (.cells (vrow 266 Sh.zero.at) 36) → w.heap.size < c0 → w.heap.size + 1 < c0 → w.heap.size + 2 < c0 → b0 < c0 → b1 < c0 → W.heap[c1]? = some (.cells (vrow 5 Br.zero.at) 49) → w.heap.size < c1 → w.heap.size + 1 < c1 → w.heap.size + 2 < c1 → b0 < c1 → b1 < c1 → c0 ≠ c1 → wpAnyH Tryd.prog .any O QQ SS 3 #[true, true, true, true, true, true, true, true, true, true, true, true, true, true, false, false, false] { tmps := #[.agg (vrow 266 s.at), .agg (vrow 5 b.at), .agg (vrow 2 (spAt x y)), .int .i64 k, .pointer (some ⟨w.heap.size, 0, none⟩), .pointer (some ⟨w.heap.size + 1, 0, none⟩), .pointer (some ⟨w.heap.size + 2, 0, none⟩), undef, .bool false, .pointer (some ⟨b0, 0, none⟩), .pointer (some ⟨b1, 0, none⟩), .int .i64 c, .pointer (some ⟨c0, 0, none⟩), .pointer (some ⟨c1, 0, none⟩), undef, .tuple #[.agg (vrow 266 r.at), .agg (vrow 5 q.at), .int .i64 c], .agg (vrow 266 s.at), .agg (vrow 266 s.at), .agg (vrow 5 b.at), .agg (vrow 5 b.at), .agg (vrow 2 (spAt x y)), .agg (vrow 2 (spAt x y)), .int .i64 k, .tuple #[.agg (vrow 266 r.at), .agg (vrow 5 q.at), .int .i64 c], .agg (vrow 266 r.at), .agg (vrow 5 q.at), .int .i64 c, .tuple #[.agg (vrow 266 r.at), .agg (vrow 5 q.at), .int .i64 c], .agg (vrow 266 s.at), .agg (vrow 266 s.at), .agg (vrow 5 b.at), .agg (vrow 5 b.at), .agg (vrow 2 (spAt x y)), .agg (vrow 2 (spAt x y)), .int .i64 k, .tuple #[.agg (vrow 266 r.at), .agg (vrow 5 q.at), .int .i64 c], .agg (vrow 266 r.at), .agg (vrow 5 q.at), .int .i64 c, undef, undef, undef, undef, undef, undef, undef, undef, undef, undef, undef, undef, undef, undef, undef], defers := [] } W := by
      intro W c0 c1 hH V0 n0_0 n0_1 n0_2 n0_3 n0_4 V1 n1_0 n1_1 n1_2 n1_3 n1_4 d0_1
      subst hO hSS hQQ
      refine wpAnyH_ready (rs := [14]) (by kernel_rfl) (by simp) (AllReadyH.cons rfl (fun K hK => ?_) AllReadyH.nil)
      rw [if_pos (by rfl)]
      unfold Oper.wp
      rw [run_storemid 36 (.tmp 12) (.tmp 36) rfl c0 0 rfl 266 266 Sh.zero.at r.at rfl 36 size_sheet V0 (by omega) (fun i _ => Sh.one _ i), vrow_over_all, Oper.upon_skip]
      replace V0 := row_set V0 (vrow 266 r.at)
      replace V1 := row_set' (show c1 ≠ c0 by omega) V1 (vrow 266 r.at)
      have hH2 : Below w.heap.size w (W.setRow c0 (vrow 266 r.at)) ∧ (W.setRow c0 (vrow 266 r.at)).heap[w.heap.size]? = some (.cells (vrow 266 s.at) 31) ∧ (W.setRow c0 (vrow 266 r.at)).heap[w.heap.size + 1]? = some (.cells (vrow 5 b.at) 47) ∧ (W.setRow c0 (vrow 266 r.at)).heap[w.heap.size + 2]? = some (.cells (vrow 2 (spAt x y)) 48) ∧ (W.setRow c0 (vrow 266 r.at)).heap[b0]? = some (.cells (vrow 266 r.at) 36) ∧ (W.setRow c0 (vrow 266 r.at)).heap[b1]? = some (.cells (vrow 5 q.at) 49) := ⟨Below_setRow hH.1 (by omega) _, row_set' (by omega) hH.2.1 _, row_set' (by omega) hH.2.2.1 _, row_set' (by omega) hH.2.2.2.1 _, row_set' (by omega) hH.2.2.2.2.1 _, row_set' (by omega) hH.2.2.2.2.2 _⟩
      refine hK.out _ _ hH2 (fun hH => ?_)
      clear hK K hH2
      (try simp only [Act.put, List.setIfInBounds_toArray, List.set_cons_succ, List.set_cons_zero])
      generalize (W.setRow c0 (vrow 266 r.at)) = Y0 at hH V0 V1 ⊢
      refine wpAnyH_ready (rs := [15]) (by kernel_rfl) (by simp) (AllReadyH.cons rfl (fun K hK => ?_) AllReadyH.nil)
      rw [if_pos (by rfl)]
      unfold Oper.wp
      rw [run_storemid 49 (.tmp 13) (.tmp 37) rfl c1 0 rfl 5 5 Br.zero.at q.at rfl 49 size_br V1 (by omega) (fun i _ => Br.one _ i), vrow_over_all, Oper.upon_skip]
      replace V0 := row_set' (show c0 ≠ c1 by omega) V0 (vrow 5 q.at)
      replace V1 := row_set V1 (vrow 5 q.at)
      have hH2 : Below w.heap.size w (Y0.setRow c1 (vrow 5 q.at)) ∧ (Y0.setRow c1 (vrow 5 q.at)).heap[w.heap.size]? = some (.cells (vrow 266 s.at) 31) ∧ (Y0.setRow c1 (vrow 5 q.at)).heap[w.heap.size + 1]? = some (.cells (vrow 5 b.at) 47) ∧ (Y0.setRow c1 (vrow 5 q.at)).heap[w.heap.size + 2]? = some (.cells (vrow 2 (spAt x y)) 48) ∧ (Y0.setRow c1 (vrow 5 q.at)).heap[b0]? = some (.cells (vrow 266 r.at) 36) ∧ (Y0.setRow c1 (vrow 5 q.at)).heap[b1]? = some (.cells (vrow 5 q.at) 49) := ⟨Below_setRow hH.1 (by omega) _, row_set' (by omega) hH.2.1 _, row_set' (by omega) hH.2.2.1 _, row_set' (by omega) hH.2.2.2.1 _, row_set' (by omega) hH.2.2.2.2.1 _, row_set' (by omega) hH.2.2.2.2.2 _⟩
      refine hK.out _ _ hH2 (fun hH => ?_)
      clear hK K hH2
      (try simp only [Act.put, List.setIfInBounds_toArray, List.set_cons_succ, List.set_cons_zero])
      generalize (Y0.setRow c1 (vrow 5 q.at)) = Y1 at hH V0 V1 ⊢
      refine wpAnyH_take (i := 16) (v := (.int .i64 c)) rfl (by kernel_rfl) (by kernel_rfl) (by kernel_rfl) (fun _ _ _ h => by cases h.1) (.inl ⟨by rfl, fun w _ => by go_simp⟩) hH ?_
      (try simp only [Act.put, List.setIfInBounds_toArray, List.set_cons_succ, List.set_cons_zero])
      refine wpAnyH_done (by kernel_rfl) ?_ _
      exact ⟨rfl, c0, c1, rfl, hH, V0, V1⟩
    have M4_10 : ∀ (W : World) (c0 : Nat), (Below w.heap.size w W ∧ W.heap[w.heap.size]? = some (.cells (vrow 266 s.at) 31) ∧ W.heap[w.heap.size + 1]? = some (.cells (vrow 5 b.at) 47) ∧ W.heap[w.heap.size + 2]? = some (.cells (vrow 2 (spAt x y)) 48) ∧ W.heap[b0]? = some (.cells (vrow 266 r.at) 36) ∧ W.heap[b1]? = some (.cells (vrow 5 q.at) 49)) → W.heap[c0]? = some (.cells (vrow 266 Sh.zero.at) 36) → w.heap.size < c0 → w.heap.size + 1 < c0 → w.heap.size + 2 < c0 → b0 < c0 → b1 < c0 → wpAnyH Tryd.prog .any O QQ SS 4 #[true, true, true, true, true, true, true, true, true, true, true, true, true, false, false, false, false] { tmps := #[.agg (vrow 266 s.at), .agg (vrow 5 b.at), .agg (vrow 2 (spAt x y)), .int .i64 k, .pointer (some ⟨w.heap.size, 0, none⟩), .pointer (some ⟨w.heap.size + 1, 0, none⟩), .pointer (some ⟨w.heap.size + 2, 0, none⟩), undef, .bool false, .pointer (some ⟨b0, 0, none⟩), .pointer (some ⟨b1, 0, none⟩), .int .i64 c, .pointer (some ⟨c0, 0, none⟩), undef, undef, .tuple #[.agg (vrow 266 r.at), .agg (vrow 5 q.at), .int .i64 c], .agg (vrow 266 s.at), .agg (vrow 266 s.at), .agg (vrow 5 b.at), .agg (vrow 5 b.at), .agg (vrow 2 (spAt x y)), .agg (vrow 2 (spAt x y)), .int .i64 k, .tuple #[.agg (vrow 266 r.at), .agg (vrow 5 q.at), .int .i64 c], .agg (vrow 266 r.at), .agg (vrow 5 q.at), .int .i64 c, .tuple #[.agg (vrow 266 r.at), .agg (vrow 5 q.at), .int .i64 c], .agg (vrow 266 s.at), .agg (vrow 266 s.at), .agg (vrow 5 b.at), .agg (vrow 5 b.at), .agg (vrow 2 (spAt x y)), .agg (vrow 2 (spAt x y)), .int .i64 k, .tuple #[.agg (vrow 266 r.at), .agg (vrow 5 q.at), .int .i64 c], .agg (vrow 266 r.at), .agg (vrow 5 q.at), .int .i64 c, undef, undef, undef, undef, undef, undef, undef, undef, undef, undef, undef, undef, undef, undef, undef], defers := [] } W := by
      intro W c0 hH V0 n0_0 n0_1 n0_2 n0_3 n0_4
      subst hO hSS hQQ
      refine wpAnyH_ready (rs := [13]) (by kernel_rfl) (by simp) (AllReadyH.cons rfl (fun K hK => ?_) AllReadyH.nil)
      · rw [if_pos (by rfl)]
        go_simp
        try simp only [sp_vrow]
        have V := heap_at W (.cells (vrow 5 Br.zero.at) 49) _ rfl
        have m0 := row_lt hH.2.1
        have m1 := row_lt hH.2.2.1
        have m2 := row_lt hH.2.2.2.1
        have m3 := row_lt hH.2.2.2.2.1
        have m4 := row_lt hH.2.2.2.2.2
        have mm0 := row_lt V0
        replace V0 := heap_past _ (.cells (vrow 5 Br.zero.at) 49) _ _ mm0 V0
        replace hH : Below w.heap.size w (W.alloc (.cells (vrow 5 Br.zero.at) 49)) ∧ (W.alloc (.cells (vrow 5 Br.zero.at) 49)).heap[w.heap.size]? = some (.cells (vrow 266 s.at) 31) ∧ (W.alloc (.cells (vrow 5 Br.zero.at) 49)).heap[w.heap.size + 1]? = some (.cells (vrow 5 b.at) 47) ∧ (W.alloc (.cells (vrow 5 Br.zero.at) 49)).heap[w.heap.size + 2]? = some (.cells (vrow 2 (spAt x y)) 48) ∧ (W.alloc (.cells (vrow 5 Br.zero.at) 49)).heap[b0]? = some (.cells (vrow 266 r.at) 36) ∧ (W.alloc (.cells (vrow 5 Br.zero.at) 49)).heap[b1]? = some (.cells (vrow 5 q.at) 49) := ⟨hH.1.alloc hH.1.size _, heap_past _ _ _ _ m0 hH.2.1, heap_past _ _ _ _ m1 hH.2.2.1, heap_past _ _ _ _ m2 hH.2.2.2.1, heap_past _ _ _ _ m3 hH.2.2.2.2.1, heap_past _ _ _ _ m4 hH.2.2.2.2.2⟩
        refine hK.out _ _ hH (fun hH => ?_)
        clear hK K
        (try simp only [Act.put, List.setIfInBounds_toArray, List.set_cons_succ, List.set_cons_zero])
        refine wpAnyH_at 3 #[true, true, true, true, true, true, true, true, true, true, true, true, true, true, false, false, false] (by kernel_rfl) (by kernel_rfl) ?_
        exact M4_11 (W.alloc (.cells (vrow 5 Br.zero.at) 49)) c0 W.heap.size hH V0 n0_0 n0_1 n0_2 n0_3 n0_4 V m0 m1 m2 m3 m4 (by omega)
    have M4_01 : ∀ (W : World) (c1 : Nat), (Below w.heap.size w W ∧ W.heap[w.heap.size]? = some (.cells (vrow 266 s.at) 31) ∧ W.heap[w.heap.size + 1]? = some (.cells (vrow 5 b.at) 47) ∧ W.heap[w.heap.size + 2]? = some (.cells (vrow 2 (spAt x y)) 48) ∧ W.heap[b0]? = some (.cells (vrow 266 r.at) 36) ∧ W.heap[b1]? = some (.cells (vrow 5 q.at) 49)) → W.heap[c1]? = some (.cells (vrow 5 Br.zero.at) 49) → w.heap.size < c1 → w.heap.size + 1 < c1 → w.heap.size + 2 < c1 → b0 < c1 → b1 < c1 → wpAnyH Tryd.prog .any O QQ SS 4 #[true, true, true, true, true, true, true, true, true, true, true, true, false, true, false, false, false] { tmps := #[.agg (vrow 266 s.at), .agg (vrow 5 b.at), .agg (vrow 2 (spAt x y)), .int .i64 k, .pointer (some ⟨w.heap.size, 0, none⟩), .pointer (some ⟨w.heap.size + 1, 0, none⟩), .pointer (some ⟨w.heap.size + 2, 0, none⟩), undef, .bool false, .pointer (some ⟨b0, 0, none⟩), .pointer (some ⟨b1, 0, none⟩), .int .i64 c, undef, .pointer (some ⟨c1, 0, none⟩), undef, .tuple #[.agg (vrow 266 r.at), .agg (vrow 5 q.at), .int .i64 c], .agg (vrow 266 s.at), .agg (vrow 266 s.at), .agg (vrow 5 b.at), .agg (vrow 5 b.at), .agg (vrow 2 (spAt x y)), .agg (vrow 2 (spAt x y)), .int .i64 k, .tuple #[.agg (vrow 266 r.at), .agg (vrow 5 q.at), .int .i64 c], .agg (vrow 266 r.at), .agg (vrow 5 q.at), .int .i64 c, .tuple #[.agg (vrow 266 r.at), .agg (vrow 5 q.at), .int .i64 c], .agg (vrow 266 s.at), .agg (vrow 266 s.at), .agg (vrow 5 b.at), .agg (vrow 5 b.at), .agg (vrow 2 (spAt x y)), .agg (vrow 2 (spAt x y)), .int .i64 k, .tuple #[.agg (vrow 266 r.at), .agg (vrow 5 q.at), .int .i64 c], .agg (vrow 266 r.at), .agg (vrow 5 q.at), .int .i64 c, undef, undef, undef, undef, undef, undef, undef, undef, undef, undef, undef, undef, undef, undef, undef], defers := [] } W := by
      intro W c1 hH V1 n1_0 n1_1 n1_2 n1_3 n1_4
      subst hO hSS hQQ
      refine wpAnyH_ready (rs := [12]) (by kernel_rfl) (by simp) (AllReadyH.cons rfl (fun K hK => ?_) AllReadyH.nil)
      · rw [if_pos (by rfl)]
        go_simp
        try simp only [sp_vrow]
        have V := heap_at W (.cells (vrow 266 Sh.zero.at) 36) _ rfl
        have m0 := row_lt hH.2.1
        have m1 := row_lt hH.2.2.1
        have m2 := row_lt hH.2.2.2.1
        have m3 := row_lt hH.2.2.2.2.1
        have m4 := row_lt hH.2.2.2.2.2
        have mm1 := row_lt V1
        replace V1 := heap_past _ (.cells (vrow 266 Sh.zero.at) 36) _ _ mm1 V1
        replace hH : Below w.heap.size w (W.alloc (.cells (vrow 266 Sh.zero.at) 36)) ∧ (W.alloc (.cells (vrow 266 Sh.zero.at) 36)).heap[w.heap.size]? = some (.cells (vrow 266 s.at) 31) ∧ (W.alloc (.cells (vrow 266 Sh.zero.at) 36)).heap[w.heap.size + 1]? = some (.cells (vrow 5 b.at) 47) ∧ (W.alloc (.cells (vrow 266 Sh.zero.at) 36)).heap[w.heap.size + 2]? = some (.cells (vrow 2 (spAt x y)) 48) ∧ (W.alloc (.cells (vrow 266 Sh.zero.at) 36)).heap[b0]? = some (.cells (vrow 266 r.at) 36) ∧ (W.alloc (.cells (vrow 266 Sh.zero.at) 36)).heap[b1]? = some (.cells (vrow 5 q.at) 49) := ⟨hH.1.alloc hH.1.size _, heap_past _ _ _ _ m0 hH.2.1, heap_past _ _ _ _ m1 hH.2.2.1, heap_past _ _ _ _ m2 hH.2.2.2.1, heap_past _ _ _ _ m3 hH.2.2.2.2.1, heap_past _ _ _ _ m4 hH.2.2.2.2.2⟩
        refine hK.out _ _ hH (fun hH => ?_)
        clear hK K
        (try simp only [Act.put, List.setIfInBounds_toArray, List.set_cons_succ, List.set_cons_zero])
        refine wpAnyH_at 3 #[true, true, true, true, true, true, true, true, true, true, true, true, true, true, false, false, false] (by kernel_rfl) (by kernel_rfl) ?_
        exact M4_11 (W.alloc (.cells (vrow 266 Sh.zero.at) 36)) W.heap.size c1 hH V m0 m1 m2 m3 m4 V1 n1_0 n1_1 n1_2 n1_3 n1_4 (by omega)
    have M4_00 : ∀ (W : World), (Below w.heap.size w W ∧ W.heap[w.heap.size]? = some (.cells (vrow 266 s.at) 31) ∧ W.heap[w.heap.size + 1]? = some (.cells (vrow 5 b.at) 47) ∧ W.heap[w.heap.size + 2]? = some (.cells (vrow 2 (spAt x y)) 48) ∧ W.heap[b0]? = some (.cells (vrow 266 r.at) 36) ∧ W.heap[b1]? = some (.cells (vrow 5 q.at) 49)) → wpAnyH Tryd.prog .any O QQ SS 5 #[true, true, true, true, true, true, true, true, true, true, true, true, false, false, false, false, false] { tmps := #[.agg (vrow 266 s.at), .agg (vrow 5 b.at), .agg (vrow 2 (spAt x y)), .int .i64 k, .pointer (some ⟨w.heap.size, 0, none⟩), .pointer (some ⟨w.heap.size + 1, 0, none⟩), .pointer (some ⟨w.heap.size + 2, 0, none⟩), undef, .bool false, .pointer (some ⟨b0, 0, none⟩), .pointer (some ⟨b1, 0, none⟩), .int .i64 c, undef, undef, undef, .tuple #[.agg (vrow 266 r.at), .agg (vrow 5 q.at), .int .i64 c], .agg (vrow 266 s.at), .agg (vrow 266 s.at), .agg (vrow 5 b.at), .agg (vrow 5 b.at), .agg (vrow 2 (spAt x y)), .agg (vrow 2 (spAt x y)), .int .i64 k, .tuple #[.agg (vrow 266 r.at), .agg (vrow 5 q.at), .int .i64 c], .agg (vrow 266 r.at), .agg (vrow 5 q.at), .int .i64 c, .tuple #[.agg (vrow 266 r.at), .agg (vrow 5 q.at), .int .i64 c], .agg (vrow 266 s.at), .agg (vrow 266 s.at), .agg (vrow 5 b.at), .agg (vrow 5 b.at), .agg (vrow 2 (spAt x y)), .agg (vrow 2 (spAt x y)), .int .i64 k, .tuple #[.agg (vrow 266 r.at), .agg (vrow 5 q.at), .int .i64 c], .agg (vrow 266 r.at), .agg (vrow 5 q.at), .int .i64 c, undef, undef, undef, undef, undef, undef, undef, undef, undef, undef, undef, undef, undef, undef, undef], defers := [] } W := by
      intro W hH
      subst hO hSS hQQ
      refine wpAnyH_ready (rs := [12, 13]) (by kernel_rfl) (by simp) (AllReadyH.cons rfl (fun K hK => ?_) (AllReadyH.cons rfl (fun K hK => ?_) AllReadyH.nil))
      · rw [if_pos (by rfl)]
        go_simp
        try simp only [sp_vrow]
        have V := heap_at W (.cells (vrow 266 Sh.zero.at) 36) _ rfl
        have m0 := row_lt hH.2.1
        have m1 := row_lt hH.2.2.1
        have m2 := row_lt hH.2.2.2.1
        have m3 := row_lt hH.2.2.2.2.1
        have m4 := row_lt hH.2.2.2.2.2
        replace hH : Below w.heap.size w (W.alloc (.cells (vrow 266 Sh.zero.at) 36)) ∧ (W.alloc (.cells (vrow 266 Sh.zero.at) 36)).heap[w.heap.size]? = some (.cells (vrow 266 s.at) 31) ∧ (W.alloc (.cells (vrow 266 Sh.zero.at) 36)).heap[w.heap.size + 1]? = some (.cells (vrow 5 b.at) 47) ∧ (W.alloc (.cells (vrow 266 Sh.zero.at) 36)).heap[w.heap.size + 2]? = some (.cells (vrow 2 (spAt x y)) 48) ∧ (W.alloc (.cells (vrow 266 Sh.zero.at) 36)).heap[b0]? = some (.cells (vrow 266 r.at) 36) ∧ (W.alloc (.cells (vrow 266 Sh.zero.at) 36)).heap[b1]? = some (.cells (vrow 5 q.at) 49) := ⟨hH.1.alloc hH.1.size _, heap_past _ _ _ _ m0 hH.2.1, heap_past _ _ _ _ m1 hH.2.2.1, heap_past _ _ _ _ m2 hH.2.2.2.1, heap_past _ _ _ _ m3 hH.2.2.2.2.1, heap_past _ _ _ _ m4 hH.2.2.2.2.2⟩
        refine hK.out _ _ hH (fun hH => ?_)
        clear hK K
        (try simp only [Act.put, List.setIfInBounds_toArray, List.set_cons_succ, List.set_cons_zero])
        refine wpAnyH_at 4 #[true, true, true, true, true, true, true, true, true, true, true, true, true, false, false, false, false] (by kernel_rfl) (by kernel_rfl) ?_
        exact M4_10 (W.alloc (.cells (vrow 266 Sh.zero.at) 36)) W.heap.size hH V m0 m1 m2 m3 m4
      · rw [if_pos (by rfl)]
        go_simp
        try simp only [sp_vrow]
        have V := heap_at W (.cells (vrow 5 Br.zero.at) 49) _ rfl
        have m0 := row_lt hH.2.1
        have m1 := row_lt hH.2.2.1
        have m2 := row_lt hH.2.2.2.1
        have m3 := row_lt hH.2.2.2.2.1
        have m4 := row_lt hH.2.2.2.2.2
        replace hH : Below w.heap.size w (W.alloc (.cells (vrow 5 Br.zero.at) 49)) ∧ (W.alloc (.cells (vrow 5 Br.zero.at) 49)).heap[w.heap.size]? = some (.cells (vrow 266 s.at) 31) ∧ (W.alloc (.cells (vrow 5 Br.zero.at) 49)).heap[w.heap.size + 1]? = some (.cells (vrow 5 b.at) 47) ∧ (W.alloc (.cells (vrow 5 Br.zero.at) 49)).heap[w.heap.size + 2]? = some (.cells (vrow 2 (spAt x y)) 48) ∧ (W.alloc (.cells (vrow 5 Br.zero.at) 49)).heap[b0]? = some (.cells (vrow 266 r.at) 36) ∧ (W.alloc (.cells (vrow 5 Br.zero.at) 49)).heap[b1]? = some (.cells (vrow 5 q.at) 49) := ⟨hH.1.alloc hH.1.size _, heap_past _ _ _ _ m0 hH.2.1, heap_past _ _ _ _ m1 hH.2.2.1, heap_past _ _ _ _ m2 hH.2.2.2.1, heap_past _ _ _ _ m3 hH.2.2.2.2.1, heap_past _ _ _ _ m4 hH.2.2.2.2.2⟩
        refine hK.out _ _ hH (fun hH => ?_)
        clear hK K
        (try simp only [Act.put, List.setIfInBounds_toArray, List.set_cons_succ, List.set_cons_zero])
        refine wpAnyH_at 4 #[true, true, true, true, true, true, true, true, true, true, true, true, false, true, false, false, false] (by kernel_rfl) (by kernel_rfl) ?_
        exact M4_01 (W.alloc (.cells (vrow 5 Br.zero.at) 49)) W.heap.size hH V m0 m1 m2 m3 m4
    have M3_11 : ∀ (W : World) (c0 : Nat) (c1 : Nat), (Below w.heap.size w W ∧ W.heap[w.heap.size]? = some (.cells (vrow 266 s.at) 31) ∧ W.heap[w.heap.size + 1]? = some (.cells (vrow 5 b.at) 47) ∧ W.heap[w.heap.size + 2]? = some (.cells (vrow 2 (spAt x y)) 48) ∧ W.heap[b0]? = some (.cells (vrow 266 r.at) 36) ∧ W.heap[b1]? = some (.cells (vrow 5 q.at) 49)) → W.heap[c0]? = some (.cells (vrow 266 Sh.zero.at) 36) → w.heap.size < c0 → w.heap.size + 1 < c0 → w.heap.size + 2 < c0 → b0 < c0 → b1 < c0 → W.heap[c1]? = some (.cells (vrow 5 Br.zero.at) 49) → w.heap.size < c1 → w.heap.size + 1 < c1 → w.heap.size + 2 < c1 → b0 < c1 → b1 < c1 → c0 ≠ c1 → wpAnyH Tryd.prog .any O QQ SS 8 #[true, true, true, true, true, true, true, false, false, false, false, false, true, true, false, false, false] { tmps := #[.agg (vrow 266 s.at), .agg (vrow 5 b.at), .agg (vrow 2 (spAt x y)), .int .i64 k, .pointer (some ⟨w.heap.size, 0, none⟩), .pointer (some ⟨w.heap.size + 1, 0, none⟩), .pointer (some ⟨w.heap.size + 2, 0, none⟩), undef, .bool false, .pointer (some ⟨b0, 0, none⟩), .pointer (some ⟨b1, 0, none⟩), .int .i64 c, .pointer (some ⟨c0, 0, none⟩), .pointer (some ⟨c1, 0, none⟩), undef, .tuple #[.agg (vrow 266 r.at), .agg (vrow 5 q.at), .int .i64 c], .agg (vrow 266 s.at), .agg (vrow 266 s.at), .agg (vrow 5 b.at), .agg (vrow 5 b.at), .agg (vrow 2 (spAt x y)), .agg (vrow 2 (spAt x y)), .int .i64 k, .tuple #[.agg (vrow 266 r.at), .agg (vrow 5 q.at), .int .i64 c], .agg (vrow 266 r.at), .agg (vrow 5 q.at), .int .i64 c, undef, .agg (vrow 266 s.at), .agg (vrow 266 s.at), .agg (vrow 5 b.at), .agg (vrow 5 b.at), .agg (vrow 2 (spAt x y)), .agg (vrow 2 (spAt x y)), .int .i64 k, undef, undef, undef, undef, undef, undef, undef, undef, undef, undef, undef, undef, undef, undef, undef, undef, undef, undef, undef], defers := [] } W := by
      intro W c0 c1 hH V0 n0_0 n0_1 n0_2 n0_3 n0_4 V1 n1_0 n1_1 n1_2 n1_3 n1_4 d0_1
      subst hO hSS hQQ
      refine wpAnyH_ready (rs := [7]) (by kernel_rfl) (by simp) (AllReadyH.cons rfl (fun K hK => ?_) AllReadyH.nil)
      · rw [if_pos (by rfl)]
        go_simp
        go_at_call 25
        refine (HI.out _ (hE.next hH.1)).mono ?_
        rintro o X ⟨rfl, hb⟩
        replace hH : Below w.heap.size w X ∧ X.heap[w.heap.size]? = some (.cells (vrow 266 s.at) 31) ∧ X.heap[w.heap.size + 1]? = some (.cells (vrow 5 b.at) 47) ∧ X.heap[w.heap.size + 2]? = some (.cells (vrow 2 (spAt x y)) 48) ∧ X.heap[b0]? = some (.cells (vrow 266 r.at) 36) ∧ X.heap[b1]? = some (.cells (vrow 5 q.at) 49) := ⟨hH.1.trans (hb.mono hH.1.size), row_next hb hH.2.1, row_next hb hH.2.2.1, row_next hb hH.2.2.2.1, row_next hb hH.2.2.2.2.1, row_next hb hH.2.2.2.2.2⟩
        replace V0 := row_next hb V0
        replace V1 := row_next hb V1
        clear hb
        refine hK.out _ _ hH (fun hH => ?_)
        clear hK K
        (try simp only [Act.put, List.setIfInBounds_toArray, List.set_cons_succ, List.set_cons_zero])
        refine wpAnyH_take (i := 8) (v := (.tuple #[.agg (vrow 266 r.at), .agg (vrow 5 q.at), .int .i64 c])) rfl (by kernel_rfl) (by kernel_rfl) (by kernel_rfl) (fun _ _ _ h => by cases h.1) (.inl ⟨by rfl, fun w _ => by go_simp⟩) hH ?_
        (try simp only [Act.put, List.setIfInBounds_toArray, List.set_cons_succ, List.set_cons_zero])
        refine wpAnyH_take (i := 9) (v := (.agg (vrow 266 r.at))) rfl (by kernel_rfl) (by kernel_rfl) (by kernel_rfl) (fun _ _ _ h => by cases h.1) (.inl ⟨by rfl, fun w _ => by go_simp⟩) hH ?_
        (try simp only [Act.put, List.setIfInBounds_toArray, List.set_cons_succ, List.set_cons_zero])
        refine wpAnyH_take (i := 10) (v := (.agg (vrow 5 q.at))) rfl (by kernel_rfl) (by kernel_rfl) (by kernel_rfl) (fun _ _ _ h => by cases h.1) (.inl ⟨by rfl, fun w _ => by go_simp⟩) hH ?_
        (try simp only [Act.put, List.setIfInBounds_toArray, List.set_cons_succ, List.set_cons_zero])
        refine wpAnyH_take (i := 11) (v := (.int .i64 c)) rfl (by kernel_rfl) (by kernel_rfl) (by kernel_rfl) (fun _ _ _ h => by cases h.1) (.inl ⟨by rfl, fun w _ => by go_simp⟩) hH ?_
        (try simp only [Act.put, List.setIfInBounds_toArray, List.set_cons_succ, List.set_cons_zero])
        refine wpAnyH_at 3 #[true, true, true, true, true, true, true, true, true, true, true, true, true, true, false, false, false] (by kernel_rfl) (by kernel_rfl) ?_
        exact M4_11 X c0 c1 hH V0 n0_0 n0_1 n0_2 n0_3 n0_4 V1 n1_0 n1_1 n1_2 n1_3 n1_4 d0_1
    have M3_10 : ∀ (W : World) (c0 : Nat), (Below w.heap.size w W ∧ W.heap[w.heap.size]? = some (.cells (vrow 266 s.at) 31) ∧ W.heap[w.heap.size + 1]? = some (.cells (vrow 5 b.at) 47) ∧ W.heap[w.heap.size + 2]? = some (.cells (vrow 2 (spAt x y)) 48) ∧ W.heap[b0]? = some (.cells (vrow 266 r.at) 36) ∧ W.heap[b1]? = some (.cells (vrow 5 q.at) 49)) → W.heap[c0]? = some (.cells (vrow 266 Sh.zero.at) 36) → w.heap.size < c0 → w.heap.size + 1 < c0 → w.heap.size + 2 < c0 → b0 < c0 → b1 < c0 → wpAnyH Tryd.prog .any O QQ SS 9 #[true, true, true, true, true, true, true, false, false, false, false, false, true, false, false, false, false] { tmps := #[.agg (vrow 266 s.at), .agg (vrow 5 b.at), .agg (vrow 2 (spAt x y)), .int .i64 k, .pointer (some ⟨w.heap.size, 0, none⟩), .pointer (some ⟨w.heap.size + 1, 0, none⟩), .pointer (some ⟨w.heap.size + 2, 0, none⟩), undef, .bool false, .pointer (some ⟨b0, 0, none⟩), .pointer (some ⟨b1, 0, none⟩), .int .i64 c, .pointer (some ⟨c0, 0, none⟩), undef, undef, .tuple #[.agg (vrow 266 r.at), .agg (vrow 5 q.at), .int .i64 c], .agg (vrow 266 s.at), .agg (vrow 266 s.at), .agg (vrow 5 b.at), .agg (vrow 5 b.at), .agg (vrow 2 (spAt x y)), .agg (vrow 2 (spAt x y)), .int .i64 k, .tuple #[.agg (vrow 266 r.at), .agg (vrow 5 q.at), .int .i64 c], .agg (vrow 266 r.at), .agg (vrow 5 q.at), .int .i64 c, undef, .agg (vrow 266 s.at), .agg (vrow 266 s.at), .agg (vrow 5 b.at), .agg (vrow 5 b.at), .agg (vrow 2 (spAt x y)), .agg (vrow 2 (spAt x y)), .int .i64 k, undef, undef, undef, undef, undef, undef, undef, undef, undef, undef, undef, undef, undef, undef, undef, undef, undef, undef, undef], defers := [] } W := by
      intro W c0 hH V0 n0_0 n0_1 n0_2 n0_3 n0_4
      subst hO hSS hQQ
      refine wpAnyH_ready (rs := [7, 13]) (by kernel_rfl) (by simp) (AllReadyH.cons rfl (fun K hK => ?_) (AllReadyH.cons rfl (fun K hK => ?_) AllReadyH.nil))
      · rw [if_pos (by rfl)]
        go_simp
        go_at_call 25
        refine (HI.out _ (hE.next hH.1)).mono ?_
        rintro o X ⟨rfl, hb⟩
        replace hH : Below w.heap.size w X ∧ X.heap[w.heap.size]? = some (.cells (vrow 266 s.at) 31) ∧ X.heap[w.heap.size + 1]? = some (.cells (vrow 5 b.at) 47) ∧ X.heap[w.heap.size + 2]? = some (.cells (vrow 2 (spAt x y)) 48) ∧ X.heap[b0]? = some (.cells (vrow 266 r.at) 36) ∧ X.heap[b1]? = some (.cells (vrow 5 q.at) 49) := ⟨hH.1.trans (hb.mono hH.1.size), row_next hb hH.2.1, row_next hb hH.2.2.1, row_next hb hH.2.2.2.1, row_next hb hH.2.2.2.2.1, row_next hb hH.2.2.2.2.2⟩
        replace V0 := row_next hb V0
        clear hb
        refine hK.out _ _ hH (fun hH => ?_)
        clear hK K
        (try simp only [Act.put, List.setIfInBounds_toArray, List.set_cons_succ, List.set_cons_zero])
        refine wpAnyH_take (i := 8) (v := (.tuple #[.agg (vrow 266 r.at), .agg (vrow 5 q.at), .int .i64 c])) rfl (by kernel_rfl) (by kernel_rfl) (by kernel_rfl) (fun _ _ _ h => by cases h.1) (.inl ⟨by rfl, fun w _ => by go_simp⟩) hH ?_
        (try simp only [Act.put, List.setIfInBounds_toArray, List.set_cons_succ, List.set_cons_zero])
        refine wpAnyH_take (i := 9) (v := (.agg (vrow 266 r.at))) rfl (by kernel_rfl) (by kernel_rfl) (by kernel_rfl) (fun _ _ _ h => by cases h.1) (.inl ⟨by rfl, fun w _ => by go_simp⟩) hH ?_
        (try simp only [Act.put, List.setIfInBounds_toArray, List.set_cons_succ, List.set_cons_zero])
        refine wpAnyH_take (i := 10) (v := (.agg (vrow 5 q.at))) rfl (by kernel_rfl) (by kernel_rfl) (by kernel_rfl) (fun _ _ _ h => by cases h.1) (.inl ⟨by rfl, fun w _ => by go_simp⟩) hH ?_
        (try simp only [Act.put, List.setIfInBounds_toArray, List.set_cons_succ, List.set_cons_zero])
        refine wpAnyH_take (i := 11) (v := (.int .i64 c)) rfl (by kernel_rfl) (by kernel_rfl) (by kernel_rfl) (fun _ _ _ h => by cases h.1) (.inl ⟨by rfl, fun w _ => by go_simp⟩) hH ?_
        (try simp only [Act.put, List.setIfInBounds_toArray, List.set_cons_succ, List.set_cons_zero])
        refine wpAnyH_at 4 #[true, true, true, true, true, true, true, true, true, true, true, true, true, false, false, false, false] (by kernel_rfl) (by kernel_rfl) ?_
        exact M4_10 X c0 hH V0 n0_0 n0_1 n0_2 n0_3 n0_4
      · rw [if_pos (by rfl)]
        go_simp
        try simp only [sp_vrow]
        have V := heap_at W (.cells (vrow 5 Br.zero.at) 49) _ rfl
        have m0 := row_lt hH.2.1
        have m1 := row_lt hH.2.2.1
        have m2 := row_lt hH.2.2.2.1
        have m3 := row_lt hH.2.2.2.2.1
        have m4 := row_lt hH.2.2.2.2.2
        have mm0 := row_lt V0
        replace V0 := heap_past _ (.cells (vrow 5 Br.zero.at) 49) _ _ mm0 V0
        replace hH : Below w.heap.size w (W.alloc (.cells (vrow 5 Br.zero.at) 49)) ∧ (W.alloc (.cells (vrow 5 Br.zero.at) 49)).heap[w.heap.size]? = some (.cells (vrow 266 s.at) 31) ∧ (W.alloc (.cells (vrow 5 Br.zero.at) 49)).heap[w.heap.size + 1]? = some (.cells (vrow 5 b.at) 47) ∧ (W.alloc (.cells (vrow 5 Br.zero.at) 49)).heap[w.heap.size + 2]? = some (.cells (vrow 2 (spAt x y)) 48) ∧ (W.alloc (.cells (vrow 5 Br.zero.at) 49)).heap[b0]? = some (.cells (vrow 266 r.at) 36) ∧ (W.alloc (.cells (vrow 5 Br.zero.at) 49)).heap[b1]? = some (.cells (vrow 5 q.at) 49) := ⟨hH.1.alloc hH.1.size _, heap_past _ _ _ _ m0 hH.2.1, heap_past _ _ _ _ m1 hH.2.2.1, heap_past _ _ _ _ m2 hH.2.2.2.1, heap_past _ _ _ _ m3 hH.2.2.2.2.1, heap_past _ _ _ _ m4 hH.2.2.2.2.2⟩
        refine hK.out _ _ hH (fun hH => ?_)
        clear hK K
        (try simp only [Act.put, List.setIfInBounds_toArray, List.set_cons_succ, List.set_cons_zero])
        refine wpAnyH_at 8 #[true, true, true, true, true, true, true, false, false, false, false, false, true, true, false, false, false] (by kernel_rfl) (by kernel_rfl) ?_
        exact M3_11 (W.alloc (.cells (vrow 5 Br.zero.at) 49)) c0 W.heap.size hH V0 n0_0 n0_1 n0_2 n0_3 n0_4 V m0 m1 m2 m3 m4 (by omega)
    have M3_01 : ∀ (W : World) (c1 : Nat), (Below w.heap.size w W ∧ W.heap[w.heap.size]? = some (.cells (vrow 266 s.at) 31) ∧ W.heap[w.heap.size + 1]? = some (.cells (vrow 5 b.at) 47) ∧ W.heap[w.heap.size + 2]? = some (.cells (vrow 2 (spAt x y)) 48) ∧ W.heap[b0]? = some (.cells (vrow 266 r.at) 36) ∧ W.heap[b1]? = some (.cells (vrow 5 q.at) 49)) → W.heap[c1]? = some (.cells (vrow 5 Br.zero.at) 49) → w.heap.size < c1 → w.heap.size + 1 < c1 → w.heap.size + 2 < c1 → b0 < c1 → b1 < c1 → wpAnyH Tryd.prog .any O QQ SS 9 #[true, true, true, true, true, true, true, false, false, false, false, false, false, true, false, false, false] { tmps := #[.agg (vrow 266 s.at), .agg (vrow 5 b.at), .agg (vrow 2 (spAt x y)), .int .i64 k, .pointer (some ⟨w.heap.size, 0, none⟩), .pointer (some ⟨w.heap.size + 1, 0, none⟩), .pointer (some ⟨w.heap.size + 2, 0, none⟩), undef, .bool false, .pointer (some ⟨b0, 0, none⟩), .pointer (some ⟨b1, 0, none⟩), .int .i64 c, undef, .pointer (some ⟨c1, 0, none⟩), undef, .tuple #[.agg (vrow 266 r.at), .agg (vrow 5 q.at), .int .i64 c], .agg (vrow 266 s.at), .agg (vrow 266 s.at), .agg (vrow 5 b.at), .agg (vrow 5 b.at), .agg (vrow 2 (spAt x y)), .agg (vrow 2 (spAt x y)), .int .i64 k, .tuple #[.agg (vrow 266 r.at), .agg (vrow 5 q.at), .int .i64 c], .agg (vrow 266 r.at), .agg (vrow 5 q.at), .int .i64 c, undef, .agg (vrow 266 s.at), .agg (vrow 266 s.at), .agg (vrow 5 b.at), .agg (vrow 5 b.at), .agg (vrow 2 (spAt x y)), .agg (vrow 2 (spAt x y)), .int .i64 k, undef, undef, undef, undef, undef, undef, undef, undef, undef, undef, undef, undef, undef, undef, undef, undef, undef, undef, undef], defers := [] } W := by
      intro W c1 hH V1 n1_0 n1_1 n1_2 n1_3 n1_4
      subst hO hSS hQQ
      refine wpAnyH_ready (rs := [7, 12]) (by kernel_rfl) (by simp) (AllReadyH.cons rfl (fun K hK => ?_) (AllReadyH.cons rfl (fun K hK => ?_) AllReadyH.nil))
      · rw [if_pos (by rfl)]
        go_simp
        go_at_call 25
        refine (HI.out _ (hE.next hH.1)).mono ?_
        rintro o X ⟨rfl, hb⟩
        replace hH : Below w.heap.size w X ∧ X.heap[w.heap.size]? = some (.cells (vrow 266 s.at) 31) ∧ X.heap[w.heap.size + 1]? = some (.cells (vrow 5 b.at) 47) ∧ X.heap[w.heap.size + 2]? = some (.cells (vrow 2 (spAt x y)) 48) ∧ X.heap[b0]? = some (.cells (vrow 266 r.at) 36) ∧ X.heap[b1]? = some (.cells (vrow 5 q.at) 49) := ⟨hH.1.trans (hb.mono hH.1.size), row_next hb hH.2.1, row_next hb hH.2.2.1, row_next hb hH.2.2.2.1, row_next hb hH.2.2.2.2.1, row_next hb hH.2.2.2.2.2⟩
        replace V1 := row_next hb V1
        clear hb
        refine hK.out _ _ hH (fun hH => ?_)
        clear hK K
        (try simp only [Act.put, List.setIfInBounds_toArray, List.set_cons_succ, List.set_cons_zero])
        refine wpAnyH_take (i := 8) (v := (.tuple #[.agg (vrow 266 r.at), .agg (vrow 5 q.at), .int .i64 c])) rfl (by kernel_rfl) (by kernel_rfl) (by kernel_rfl) (fun _ _ _ h => by cases h.1) (.inl ⟨by rfl, fun w _ => by go_simp⟩) hH ?_
        (try simp only [Act.put, List.setIfInBounds_toArray, List.set_cons_succ, List.set_cons_zero])
        refine wpAnyH_take (i := 9) (v := (.agg (vrow 266 r.at))) rfl (by kernel_rfl) (by kernel_rfl) (by kernel_rfl) (fun _ _ _ h => by cases h.1) (.inl ⟨by rfl, fun w _ => by go_simp⟩) hH ?_
        (try simp only [Act.put, List.setIfInBounds_toArray, List.set_cons_succ, List.set_cons_zero])
        refine wpAnyH_take (i := 10) (v := (.agg (vrow 5 q.at))) rfl (by kernel_rfl) (by kernel_rfl) (by kernel_rfl) (fun _ _ _ h => by cases h.1) (.inl ⟨by rfl, fun w _ => by go_simp⟩) hH ?_
        (try simp only [Act.put, List.setIfInBounds_toArray, List.set_cons_succ, List.set_cons_zero])
        refine wpAnyH_take (i := 11) (v := (.int .i64 c)) rfl (by kernel_rfl) (by kernel_rfl) (by kernel_rfl) (fun _ _ _ h => by cases h.1) (.inl ⟨by rfl, fun w _ => by go_simp⟩) hH ?_
        (try simp only [Act.put, List.setIfInBounds_toArray, List.set_cons_succ, List.set_cons_zero])
        refine wpAnyH_at 4 #[true, true, true, true, true, true, true, true, true, true, true, true, false, true, false, false, false] (by kernel_rfl) (by kernel_rfl) ?_
        exact M4_01 X c1 hH V1 n1_0 n1_1 n1_2 n1_3 n1_4
      · rw [if_pos (by rfl)]
        go_simp
        try simp only [sp_vrow]
        have V := heap_at W (.cells (vrow 266 Sh.zero.at) 36) _ rfl
        have m0 := row_lt hH.2.1
        have m1 := row_lt hH.2.2.1
        have m2 := row_lt hH.2.2.2.1
        have m3 := row_lt hH.2.2.2.2.1
        have m4 := row_lt hH.2.2.2.2.2
        have mm1 := row_lt V1
        replace V1 := heap_past _ (.cells (vrow 266 Sh.zero.at) 36) _ _ mm1 V1
        replace hH : Below w.heap.size w (W.alloc (.cells (vrow 266 Sh.zero.at) 36)) ∧ (W.alloc (.cells (vrow 266 Sh.zero.at) 36)).heap[w.heap.size]? = some (.cells (vrow 266 s.at) 31) ∧ (W.alloc (.cells (vrow 266 Sh.zero.at) 36)).heap[w.heap.size + 1]? = some (.cells (vrow 5 b.at) 47) ∧ (W.alloc (.cells (vrow 266 Sh.zero.at) 36)).heap[w.heap.size + 2]? = some (.cells (vrow 2 (spAt x y)) 48) ∧ (W.alloc (.cells (vrow 266 Sh.zero.at) 36)).heap[b0]? = some (.cells (vrow 266 r.at) 36) ∧ (W.alloc (.cells (vrow 266 Sh.zero.at) 36)).heap[b1]? = some (.cells (vrow 5 q.at) 49) := ⟨hH.1.alloc hH.1.size _, heap_past _ _ _ _ m0 hH.2.1, heap_past _ _ _ _ m1 hH.2.2.1, heap_past _ _ _ _ m2 hH.2.2.2.1, heap_past _ _ _ _ m3 hH.2.2.2.2.1, heap_past _ _ _ _ m4 hH.2.2.2.2.2⟩
        refine hK.out _ _ hH (fun hH => ?_)
        clear hK K
        (try simp only [Act.put, List.setIfInBounds_toArray, List.set_cons_succ, List.set_cons_zero])
        refine wpAnyH_at 8 #[true, true, true, true, true, true, true, false, false, false, false, false, true, true, false, false, false] (by kernel_rfl) (by kernel_rfl) ?_
        exact M3_11 (W.alloc (.cells (vrow 266 Sh.zero.at) 36)) W.heap.size c1 hH V m0 m1 m2 m3 m4 V1 n1_0 n1_1 n1_2 n1_3 n1_4 (by omega)
    have M3_00 : ∀ (W : World), (Below w.heap.size w W ∧ W.heap[w.heap.size]? = some (.cells (vrow 266 s.at) 31) ∧ W.heap[w.heap.size + 1]? = some (.cells (vrow 5 b.at) 47) ∧ W.heap[w.heap.size + 2]? = some (.cells (vrow 2 (spAt x y)) 48) ∧ W.heap[b0]? = some (.cells (vrow 266 r.at) 36) ∧ W.heap[b1]? = some (.cells (vrow 5 q.at) 49)) → wpAnyH Tryd.prog .any O QQ SS 10 #[true, true, true, true, true, true, true, false, false, false, false, false, false, false, false, false, false] { tmps := #[.agg (vrow 266 s.at), .agg (vrow 5 b.at), .agg (vrow 2 (spAt x y)), .int .i64 k, .pointer (some ⟨w.heap.size, 0, none⟩), .pointer (some ⟨w.heap.size + 1, 0, none⟩), .pointer (some ⟨w.heap.size + 2, 0, none⟩), undef, .bool false, .pointer (some ⟨b0, 0, none⟩), .pointer (some ⟨b1, 0, none⟩), .int .i64 c, undef, undef, undef, .tuple #[.agg (vrow 266 r.at), .agg (vrow 5 q.at), .int .i64 c], .agg (vrow 266 s.at), .agg (vrow 266 s.at), .agg (vrow 5 b.at), .agg (vrow 5 b.at), .agg (vrow 2 (spAt x y)), .agg (vrow 2 (spAt x y)), .int .i64 k, .tuple #[.agg (vrow 266 r.at), .agg (vrow 5 q.at), .int .i64 c], .agg (vrow 266 r.at), .agg (vrow 5 q.at), .int .i64 c, undef, .agg (vrow 266 s.at), .agg (vrow 266 s.at), .agg (vrow 5 b.at), .agg (vrow 5 b.at), .agg (vrow 2 (spAt x y)), .agg (vrow 2 (spAt x y)), .int .i64 k, undef, undef, undef, undef, undef, undef, undef, undef, undef, undef, undef, undef, undef, undef, undef, undef, undef, undef, undef], defers := [] } W := by
      intro W hH
      subst hO hSS hQQ
      refine wpAnyH_ready (rs := [7, 12, 13]) (by kernel_rfl) (by simp) (AllReadyH.cons rfl (fun K hK => ?_) (AllReadyH.cons rfl (fun K hK => ?_) (AllReadyH.cons rfl (fun K hK => ?_) AllReadyH.nil)))
      · rw [if_pos (by rfl)]
        go_simp
        go_at_call 25
        refine (HI.out _ (hE.next hH.1)).mono ?_
        rintro o X ⟨rfl, hb⟩
        replace hH : Below w.heap.size w X ∧ X.heap[w.heap.size]? = some (.cells (vrow 266 s.at) 31) ∧ X.heap[w.heap.size + 1]? = some (.cells (vrow 5 b.at) 47) ∧ X.heap[w.heap.size + 2]? = some (.cells (vrow 2 (spAt x y)) 48) ∧ X.heap[b0]? = some (.cells (vrow 266 r.at) 36) ∧ X.heap[b1]? = some (.cells (vrow 5 q.at) 49) := ⟨hH.1.trans (hb.mono hH.1.size), row_next hb hH.2.1, row_next hb hH.2.2.1, row_next hb hH.2.2.2.1, row_next hb hH.2.2.2.2.1, row_next hb hH.2.2.2.2.2⟩
        clear hb
        refine hK.out _ _ hH (fun hH => ?_)
        clear hK K
        (try simp only [Act.put, List.setIfInBounds_toArray, List.set_cons_succ, List.set_cons_zero])
        refine wpAnyH_take (i := 8) (v := (.tuple #[.agg (vrow 266 r.at), .agg (vrow 5 q.at), .int .i64 c])) rfl (by kernel_rfl) (by kernel_rfl) (by kernel_rfl) (fun _ _ _ h => by cases h.1) (.inl ⟨by rfl, fun w _ => by go_simp⟩) hH ?_
        (try simp only [Act.put, List.setIfInBounds_toArray, List.set_cons_succ, List.set_cons_zero])
        refine wpAnyH_take (i := 9) (v := (.agg (vrow 266 r.at))) rfl (by kernel_rfl) (by kernel_rfl) (by kernel_rfl) (fun _ _ _ h => by cases h.1) (.inl ⟨by rfl, fun w _ => by go_simp⟩) hH ?_
        (try simp only [Act.put, List.setIfInBounds_toArray, List.set_cons_succ, List.set_cons_zero])
        refine wpAnyH_take (i := 10) (v := (.agg (vrow 5 q.at))) rfl (by kernel_rfl) (by kernel_rfl) (by kernel_rfl) (fun _ _ _ h => by cases h.1) (.inl ⟨by rfl, fun w _ => by go_simp⟩) hH ?_
        (try simp only [Act.put, List.setIfInBounds_toArray, List.set_cons_succ, List.set_cons_zero])
        refine wpAnyH_take (i := 11) (v := (.int .i64 c)) rfl (by kernel_rfl) (by kernel_rfl) (by kernel_rfl) (fun _ _ _ h => by cases h.1) (.inl ⟨by rfl, fun w _ => by go_simp⟩) hH ?_
        (try simp only [Act.put, List.setIfInBounds_toArray, List.set_cons_succ, List.set_cons_zero])
        refine wpAnyH_at 5 #[true, true, true, true, true, true, true, true, true, true, true, true, false, false, false, false, false] (by kernel_rfl) (by kernel_rfl) ?_
        exact M4_00 X  hH
      · rw [if_pos (by rfl)]
        go_simp
        try simp only [sp_vrow]
        have V := heap_at W (.cells (vrow 266 Sh.zero.at) 36) _ rfl
        have m0 := row_lt hH.2.1
        have m1 := row_lt hH.2.2.1
        have m2 := row_lt hH.2.2.2.1
        have m3 := row_lt hH.2.2.2.2.1
        have m4 := row_lt hH.2.2.2.2.2
        replace hH : Below w.heap.size w (W.alloc (.cells (vrow 266 Sh.zero.at) 36)) ∧ (W.alloc (.cells (vrow 266 Sh.zero.at) 36)).heap[w.heap.size]? = some (.cells (vrow 266 s.at) 31) ∧ (W.alloc (.cells (vrow 266 Sh.zero.at) 36)).heap[w.heap.size + 1]? = some (.cells (vrow 5 b.at) 47) ∧ (W.alloc (.cells (vrow 266 Sh.zero.at) 36)).heap[w.heap.size + 2]? = some (.cells (vrow 2 (spAt x y)) 48) ∧ (W.alloc (.cells (vrow 266 Sh.zero.at) 36)).heap[b0]? = some (.cells (vrow 266 r.at) 36) ∧ (W.alloc (.cells (vrow 266 Sh.zero.at) 36)).heap[b1]? = some (.cells (vrow 5 q.at) 49) := ⟨hH.1.alloc hH.1.size _, heap_past _ _ _ _ m0 hH.2.1, heap_past _ _ _ _ m1 hH.2.2.1, heap_past _ _ _ _ m2 hH.2.2.2.1, heap_past _ _ _ _ m3 hH.2.2.2.2.1, heap_past _ _ _ _ m4 hH.2.2.2.2.2⟩
        refine hK.out _ _ hH (fun hH => ?_)
        clear hK K
        (try simp only [Act.put, List.setIfInBounds_toArray, List.set_cons_succ, List.set_cons_zero])
        refine wpAnyH_at 9 #[true, true, true, true, true, true, true, false, false, false, false, false, true, false, false, false, false] (by kernel_rfl) (by kernel_rfl) ?_
        exact M3_10 (W.alloc (.cells (vrow 266 Sh.zero.at) 36)) W.heap.size hH V m0 m1 m2 m3 m4
      · rw [if_pos (by rfl)]
        go_simp
        try simp only [sp_vrow]
        have V := heap_at W (.cells (vrow 5 Br.zero.at) 49) _ rfl
        have m0 := row_lt hH.2.1
        have m1 := row_lt hH.2.2.1
        have m2 := row_lt hH.2.2.2.1
        have m3 := row_lt hH.2.2.2.2.1
        have m4 := row_lt hH.2.2.2.2.2
        replace hH : Below w.heap.size w (W.alloc (.cells (vrow 5 Br.zero.at) 49)) ∧ (W.alloc (.cells (vrow 5 Br.zero.at) 49)).heap[w.heap.size]? = some (.cells (vrow 266 s.at) 31) ∧ (W.alloc (.cells (vrow 5 Br.zero.at) 49)).heap[w.heap.size + 1]? = some (.cells (vrow 5 b.at) 47) ∧ (W.alloc (.cells (vrow 5 Br.zero.at) 49)).heap[w.heap.size + 2]? = some (.cells (vrow 2 (spAt x y)) 48) ∧ (W.alloc (.cells (vrow 5 Br.zero.at) 49)).heap[b0]? = some (.cells (vrow 266 r.at) 36) ∧ (W.alloc (.cells (vrow 5 Br.zero.at) 49)).heap[b1]? = some (.cells (vrow 5 q.at) 49) := ⟨hH.1.alloc hH.1.size _, heap_past _ _ _ _ m0 hH.2.1, heap_past _ _ _ _ m1 hH.2.2.1, heap_past _ _ _ _ m2 hH.2.2.2.1, heap_past _ _ _ _ m3 hH.2.2.2.2.1, heap_past _ _ _ _ m4 hH.2.2.2.2.2⟩
        refine hK.out _ _ hH (fun hH => ?_)
        clear hK K
        (try simp only [Act.put, List.setIfInBounds_toArray, List.set_cons_succ, List.set_cons_zero])
        refine wpAnyH_at 9 #[true, true, true, true, true, true, true, false, false, false, false, false, false, true, false, false, false] (by kernel_rfl) (by kernel_rfl) ?_
        exact M3_01 (W.alloc (.cells (vrow 5 Br.zero.at) 49)) W.heap.size hH V m0 m1 m2 m3 m4
    have M2_11 : ∀ (W : World) (c0 : Nat) (c1 : Nat), (Below w.heap.size w W ∧ W.heap[w.heap.size]? = some (.cells (vrow 266 s.at) 31) ∧ W.heap[w.heap.size + 1]? = some (.cells (vrow 5 b.at) 47) ∧ W.heap[w.heap.size + 2]? = some (.cells (vrow 2 (spAt x y)) 48) ∧ W.heap[b0]? = some (.cells (vrow 266 r.at) 36) ∧ W.heap[b1]? = some (.cells (vrow 5 q.at) 49)) → W.heap[c0]? = some (.cells (vrow 266 Sh.zero.at) 36) → w.heap.size < c0 → w.heap.size + 1 < c0 → w.heap.size + 2 < c0 → b0 < c0 → b1 < c0 → W.heap[c1]? = some (.cells (vrow 5 Br.zero.at) 49) → w.heap.size < c1 → w.heap.size + 1 < c1 → w.heap.size + 2 < c1 → b0 < c1 → b1 < c1 → c0 ≠ c1 → wpAnyH Tryd.prog .any O QQ SS 9 #[true, true, true, true, true, false, true, false, false, false, false, false, true, true, false, false, false] { tmps := #[.agg (vrow 266 s.at), .agg (vrow 5 b.at), .agg (vrow 2 (spAt x y)), .int .i64 k, .pointer (some ⟨w.heap.size, 0, none⟩), .pointer (some ⟨w.heap.size + 1, 0, none⟩), .pointer (some ⟨w.heap.size + 2, 0, none⟩), undef, .bool false, .pointer (some ⟨b0, 0, none⟩), .pointer (some ⟨b1, 0, none⟩), .int .i64 c, .pointer (some ⟨c0, 0, none⟩), .pointer (some ⟨c1, 0, none⟩), undef, .tuple #[.agg (vrow 266 r.at), .agg (vrow 5 q.at), .int .i64 c], .agg (vrow 266 s.at), .agg (vrow 266 s.at), .agg (vrow 5 b.at), .agg (vrow 5 b.at), .agg (vrow 2 (spAt x y)), .agg (vrow 2 (spAt x y)), .int .i64 k, .tuple #[.agg (vrow 266 r.at), .agg (vrow 5 q.at), .int .i64 c], .agg (vrow 266 r.at), .agg (vrow 5 q.at), .int .i64 c, undef, .agg (vrow 266 s.at), .agg (vrow 266 s.at), .agg (vrow 5 b.at), .agg (vrow 5 b.at), .agg (vrow 2 (spAt x y)), undef, .int .i64 k, undef, undef, undef, undef, undef, undef, undef, undef, undef, undef, undef, undef, undef, undef, undef, undef, undef, undef, undef], defers := [] } W := by
      intro W c0 c1 hH V0 n0_0 n0_1 n0_2 n0_3 n0_4 V1 n1_0 n1_1 n1_2 n1_3 n1_4 d0_1
      subst hO hSS hQQ
      refine wpAnyH_ready (rs := [5]) (by kernel_rfl) (by simp) (AllReadyH.cons rfl (fun K hK => ?_) AllReadyH.nil)
      · rw [if_pos (by rfl)]
        go_simp
        go_at_call 24
        refine (HT2.out _).mono ?_
        rintro o X ⟨rfl, hb⟩
        replace hH : Below w.heap.size w X ∧ X.heap[w.heap.size]? = some (.cells (vrow 266 s.at) 31) ∧ X.heap[w.heap.size + 1]? = some (.cells (vrow 5 b.at) 47) ∧ X.heap[w.heap.size + 2]? = some (.cells (vrow 2 (spAt x y)) 48) ∧ X.heap[b0]? = some (.cells (vrow 266 r.at) 36) ∧ X.heap[b1]? = some (.cells (vrow 5 q.at) 49) := ⟨hH.1.trans (hb.mono hH.1.size), row_next hb hH.2.1, row_next hb hH.2.2.1, row_next hb hH.2.2.2.1, row_next hb hH.2.2.2.2.1, row_next hb hH.2.2.2.2.2⟩
        replace V0 := row_next hb V0
        replace V1 := row_next hb V1
        clear hb
        refine hK.out _ _ hH (fun hH => ?_)
        clear hK K
        (try simp only [Act.put, List.setIfInBounds_toArray, List.set_cons_succ, List.set_cons_zero])
        refine wpAnyH_at 8 #[true, true, true, true, true, true, true, false, false, false, false, false, true, true, false, false, false] (by kernel_rfl) (by kernel_rfl) ?_
        exact M3_11 X c0 c1 hH V0 n0_0 n0_1 n0_2 n0_3 n0_4 V1 n1_0 n1_1 n1_2 n1_3 n1_4 d0_1
    have M2_10 : ∀ (W : World) (c0 : Nat), (Below w.heap.size w W ∧ W.heap[w.heap.size]? = some (.cells (vrow 266 s.at) 31) ∧ W.heap[w.heap.size + 1]? = some (.cells (vrow 5 b.at) 47) ∧ W.heap[w.heap.size + 2]? = some (.cells (vrow 2 (spAt x y)) 48) ∧ W.heap[b0]? = some (.cells (vrow 266 r.at) 36) ∧ W.heap[b1]? = some (.cells (vrow 5 q.at) 49)) → W.heap[c0]? = some (.cells (vrow 266 Sh.zero.at) 36) → w.heap.size < c0 → w.heap.size + 1 < c0 → w.heap.size + 2 < c0 → b0 < c0 → b1 < c0 → wpAnyH Tryd.prog .any O QQ SS 10 #[true, true, true, true, true, false, true, false, false, false, false, false, true, false, false, false, false] { tmps := #[.agg (vrow 266 s.at), .agg (vrow 5 b.at), .agg (vrow 2 (spAt x y)), .int .i64 k, .pointer (some ⟨w.heap.size, 0, none⟩), .pointer (some ⟨w.heap.size + 1, 0, none⟩), .pointer (some ⟨w.heap.size + 2, 0, none⟩), undef, .bool false, .pointer (some ⟨b0, 0, none⟩), .pointer (some ⟨b1, 0, none⟩), .int .i64 c, .pointer (some ⟨c0, 0, none⟩), undef, undef, .tuple #[.agg (vrow 266 r.at), .agg (vrow 5 q.at), .int .i64 c], .agg (vrow 266 s.at), .agg (vrow 266 s.at), .agg (vrow 5 b.at), .agg (vrow 5 b.at), .agg (vrow 2 (spAt x y)), .agg (vrow 2 (spAt x y)), .int .i64 k, .tuple #[.agg (vrow 266 r.at), .agg (vrow 5 q.at), .int .i64 c], .agg (vrow 266 r.at), .agg (vrow 5 q.at), .int .i64 c, undef, .agg (vrow 266 s.at), .agg (vrow 266 s.at), .agg (vrow 5 b.at), .agg (vrow 5 b.at), .agg (vrow 2 (spAt x y)), undef, .int .i64 k, undef, undef, undef, undef, undef, undef, undef, undef, undef, undef, undef, undef, undef, undef, undef, undef, undef, undef, undef], defers := [] } W := by
      intro W c0 hH V0 n0_0 n0_1 n0_2 n0_3 n0_4
      subst hO hSS hQQ
      refine wpAnyH_ready (rs := [5, 13]) (by kernel_rfl) (by simp) (AllReadyH.cons rfl (fun K hK => ?_) (AllReadyH.cons rfl (fun K hK => ?_) AllReadyH.nil))
      · rw [if_pos (by rfl)]
        go_simp
        go_at_call 24
        refine (HT2.out _).mono ?_
        rintro o X ⟨rfl, hb⟩
        replace hH : Below w.heap.size w X ∧ X.heap[w.heap.size]? = some (.cells (vrow 266 s.at) 31) ∧ X.heap[w.heap.size + 1]? = some (.cells (vrow 5 b.at) 47) ∧ X.heap[w.heap.size + 2]? = some (.cells (vrow 2 (spAt x y)) 48) ∧ X.heap[b0]? = some (.cells (vrow 266 r.at) 36) ∧ X.heap[b1]? = some (.cells (vrow 5 q.at) 49) := ⟨hH.1.trans (hb.mono hH.1.size), row_next hb hH.2.1, row_next hb hH.2.2.1, row_next hb hH.2.2.2.1, row_next hb hH.2.2.2.2.1, row_next hb hH.2.2.2.2.2⟩
        replace V0 := row_next hb V0
        clear hb
        refine hK.out _ _ hH (fun hH => ?_)
        clear hK K
        (try simp only [Act.put, List.setIfInBounds_toArray, List.set_cons_succ, List.set_cons_zero])
        refine wpAnyH_at 9 #[true, true, true, true, true, true, true, false, false, false, false, false, true, false, false, false, false] (by kernel_rfl) (by kernel_rfl) ?_
        exact M3_10 X c0 hH V0 n0_0 n0_1 n0_2 n0_3 n0_4
      · rw [if_pos (by rfl)]
        go_simp
        try simp only [sp_vrow]
        have V := heap_at W (.cells (vrow 5 Br.zero.at) 49) _ rfl
        have m0 := row_lt hH.2.1
        have m1 := row_lt hH.2.2.1
        have m2 := row_lt hH.2.2.2.1
        have m3 := row_lt hH.2.2.2.2.1
        have m4 := row_lt hH.2.2.2.2.2
        have mm0 := row_lt V0
        replace V0 := heap_past _ (.cells (vrow 5 Br.zero.at) 49) _ _ mm0 V0
        replace hH : Below w.heap.size w (W.alloc (.cells (vrow 5 Br.zero.at) 49)) ∧ (W.alloc (.cells (vrow 5 Br.zero.at) 49)).heap[w.heap.size]? = some (.cells (vrow 266 s.at) 31) ∧ (W.alloc (.cells (vrow 5 Br.zero.at) 49)).heap[w.heap.size + 1]? = some (.cells (vrow 5 b.at) 47) ∧ (W.alloc (.cells (vrow 5 Br.zero.at) 49)).heap[w.heap.size + 2]? = some (.cells (vrow 2 (spAt x y)) 48) ∧ (W.alloc (.cells (vrow 5 Br.zero.at) 49)).heap[b0]? = some (.cells (vrow 266 r.at) 36) ∧ (W.alloc (.cells (vrow 5 Br.zero.at) 49)).heap[b1]? = some (.cells (vrow 5 q.at) 49) := ⟨hH.1.alloc hH.1.size _, heap_past _ _ _ _ m0 hH.2.1, heap_past _ _ _ _ m1 hH.2.2.1, heap_past _ _ _ _ m2 hH.2.2.2.1, heap_past _ _ _ _ m3 hH.2.2.2.2.1, heap_past _ _ _ _ m4 hH.2.2.2.2.2⟩
        refine hK.out _ _ hH (fun hH => ?_)
        clear hK K
        (try simp only [Act.put, List.setIfInBounds_toArray, List.set_cons_succ, List.set_cons_zero])
        refine wpAnyH_at 9 #[true, true, true, true, true, false, true, false, false, false, false, false, true, true, false, false, false] (by kernel_rfl) (by kernel_rfl) ?_
        exact M2_11 (W.alloc (.cells (vrow 5 Br.zero.at) 49)) c0 W.heap.size hH V0 n0_0 n0_1 n0_2 n0_3 n0_4 V m0 m1 m2 m3 m4 (by omega)
    have M2_01 : ∀ (W : World) (c1 : Nat), (Below w.heap.size w W ∧ W.heap[w.heap.size]? = some (.cells (vrow 266 s.at) 31) ∧ W.heap[w.heap.size + 1]? = some (.cells (vrow 5 b.at) 47) ∧ W.heap[w.heap.size + 2]? = some (.cells (vrow 2 (spAt x y)) 48) ∧ W.heap[b0]? = some (.cells (vrow 266 r.at) 36) ∧ W.heap[b1]? = some (.cells (vrow 5 q.at) 49)) → W.heap[c1]? = some (.cells (vrow 5 Br.zero.at) 49) → w.heap.size < c1 → w.heap.size + 1 < c1 → w.heap.size + 2 < c1 → b0 < c1 → b1 < c1 → wpAnyH Tryd.prog .any O QQ SS 10 #[true, true, true, true, true, false, true, false, false, false, false, false, false, true, false, false, false] { tmps := #[.agg (vrow 266 s.at), .agg (vrow 5 b.at), .agg (vrow 2 (spAt x y)), .int .i64 k, .pointer (some ⟨w.heap.size, 0, none⟩), .pointer (some ⟨w.heap.size + 1, 0, none⟩), .pointer (some ⟨w.heap.size + 2, 0, none⟩), undef, .bool false, .pointer (some ⟨b0, 0, none⟩), .pointer (some ⟨b1, 0, none⟩), .int .i64 c, undef, .pointer (some ⟨c1, 0, none⟩), undef, .tuple #[.agg (vrow 266 r.at), .agg (vrow 5 q.at), .int .i64 c], .agg (vrow 266 s.at), .agg (vrow 266 s.at), .agg (vrow 5 b.at), .agg (vrow 5 b.at), .agg (vrow 2 (spAt x y)), .agg (vrow 2 (spAt x y)), .int .i64 k, .tuple #[.agg (vrow 266 r.at), .agg (vrow 5 q.at), .int .i64 c], .agg (vrow 266 r.at), .agg (vrow 5 q.at), .int .i64 c, undef, .agg (vrow 266 s.at), .agg (vrow 266 s.at), .agg (vrow 5 b.at), .agg (vrow 5 b.at), .agg (vrow 2 (spAt x y)), undef, .int .i64 k, undef, undef, undef, undef, undef, undef, undef, undef, undef, undef, undef, undef, undef, undef, undef, undef, undef, undef, undef], defers := [] } W := by
      intro W c1 hH V1 n1_0 n1_1 n1_2 n1_3 n1_4
      subst hO hSS hQQ
      refine wpAnyH_ready (rs := [5, 12]) (by kernel_rfl) (by simp) (AllReadyH.cons rfl (fun K hK => ?_) (AllReadyH.cons rfl (fun K hK => ?_) AllReadyH.nil))
      · rw [if_pos (by rfl)]
        go_simp
        go_at_call 24
        refine (HT2.out _).mono ?_
        rintro o X ⟨rfl, hb⟩
        replace hH : Below w.heap.size w X ∧ X.heap[w.heap.size]? = some (.cells (vrow 266 s.at) 31) ∧ X.heap[w.heap.size + 1]? = some (.cells (vrow 5 b.at) 47) ∧ X.heap[w.heap.size + 2]? = some (.cells (vrow 2 (spAt x y)) 48) ∧ X.heap[b0]? = some (.cells (vrow 266 r.at) 36) ∧ X.heap[b1]? = some (.cells (vrow 5 q.at) 49) := ⟨hH.1.trans (hb.mono hH.1.size), row_next hb hH.2.1, row_next hb hH.2.2.1, row_next hb hH.2.2.2.1, row_next hb hH.2.2.2.2.1, row_next hb hH.2.2.2.2.2⟩
        replace V1 := row_next hb V1
        clear hb
        refine hK.out _ _ hH (fun hH => ?_)
        clear hK K
        (try simp only [Act.put, List.setIfInBounds_toArray, List.set_cons_succ, List.set_cons_zero])
        refine wpAnyH_at 9 #[true, true, true, true, true, true, true, false, false, false, false, false, false, true, false, false, false] (by kernel_rfl) (by kernel_rfl) ?_
        exact M3_01 X c1 hH V1 n1_0 n1_1 n1_2 n1_3 n1_4
      · rw [if_pos (by rfl)]
        go_simp
        try simp only [sp_vrow]
        have V := heap_at W (.cells (vrow 266 Sh.zero.at) 36) _ rfl
        have m0 := row_lt hH.2.1
        have m1 := row_lt hH.2.2.1
        have m2 := row_lt hH.2.2.2.1
        have m3 := row_lt hH.2.2.2.2.1
        have m4 := row_lt hH.2.2.2.2.2
        have mm1 := row_lt V1
        replace V1 := heap_past _ (.cells (vrow 266 Sh.zero.at) 36) _ _ mm1 V1
        replace hH : Below w.heap.size w (W.alloc (.cells (vrow 266 Sh.zero.at) 36)) ∧ (W.alloc (.cells (vrow 266 Sh.zero.at) 36)).heap[w.heap.size]? = some (.cells (vrow 266 s.at) 31) ∧ (W.alloc (.cells (vrow 266 Sh.zero.at) 36)).heap[w.heap.size + 1]? = some (.cells (vrow 5 b.at) 47) ∧ (W.alloc (.cells (vrow 266 Sh.zero.at) 36)).heap[w.heap.size + 2]? = some (.cells (vrow 2 (spAt x y)) 48) ∧ (W.alloc (.cells (vrow 266 Sh.zero.at) 36)).heap[b0]? = some (.cells (vrow 266 r.at) 36) ∧ (W.alloc (.cells (vrow 266 Sh.zero.at) 36)).heap[b1]? = some (.cells (vrow 5 q.at) 49) := ⟨hH.1.alloc hH.1.size _, heap_past _ _ _ _ m0 hH.2.1, heap_past _ _ _ _ m1 hH.2.2.1, heap_past _ _ _ _ m2 hH.2.2.2.1, heap_past _ _ _ _ m3 hH.2.2.2.2.1, heap_past _ _ _ _ m4 hH.2.2.2.2.2⟩
        refine hK.out _ _ hH (fun hH => ?_)
        clear hK K
        (try simp only [Act.put, List.setIfInBounds_toArray, List.set_cons_succ, List.set_cons_zero])
        refine wpAnyH_at 9 #[true, true, true, true, true, false, true, false, false, false, false, false, true, true, false, false, false] (by kernel_rfl) (by kernel_rfl) ?_
        exact M2_11 (W.alloc (.cells (vrow 266 Sh.zero.at) 36)) W.heap.size c1 hH V m0 m1 m2 m3 m4 V1 n1_0 n1_1 n1_2 n1_3 n1_4 (by omega)
    have M2_00 : ∀ (W : World), (Below w.heap.size w W ∧ W.heap[w.heap.size]? = some (.cells (vrow 266 s.at) 31) ∧ W.heap[w.heap.size + 1]? = some (.cells (vrow 5 b.at) 47) ∧ W.heap[w.heap.size + 2]? = some (.cells (vrow 2 (spAt x y)) 48) ∧ W.heap[b0]? = some (.cells (vrow 266 r.at) 36) ∧ W.heap[b1]? = some (.cells (vrow 5 q.at) 49)) → wpAnyH Tryd.prog .any O QQ SS 11 #[true, true, true, true, true, false, true, false, false, false, false, false, false, false, false, false, false] { tmps := #[.agg (vrow 266 s.at), .agg (vrow 5 b.at), .agg (vrow 2 (spAt x y)), .int .i64 k, .pointer (some ⟨w.heap.size, 0, none⟩), .pointer (some ⟨w.heap.size + 1, 0, none⟩), .pointer (some ⟨w.heap.size + 2, 0, none⟩), undef, .bool false, .pointer (some ⟨b0, 0, none⟩), .pointer (some ⟨b1, 0, none⟩), .int .i64 c, undef, undef, undef, .tuple #[.agg (vrow 266 r.at), .agg (vrow 5 q.at), .int .i64 c], .agg (vrow 266 s.at), .agg (vrow 266 s.at), .agg (vrow 5 b.at), .agg (vrow 5 b.at), .agg (vrow 2 (spAt x y)), .agg (vrow 2 (spAt x y)), .int .i64 k, .tuple #[.agg (vrow 266 r.at), .agg (vrow 5 q.at), .int .i64 c], .agg (vrow 266 r.at), .agg (vrow 5 q.at), .int .i64 c, undef, .agg (vrow 266 s.at), .agg (vrow 266 s.at), .agg (vrow 5 b.at), .agg (vrow 5 b.at), .agg (vrow 2 (spAt x y)), undef, .int .i64 k, undef, undef, undef, undef, undef, undef, undef, undef, undef, undef, undef, undef, undef, undef, undef, undef, undef, undef, undef], defers := [] } W := by
      intro W hH
      subst hO hSS hQQ
      refine wpAnyH_ready (rs := [5, 12, 13]) (by kernel_rfl) (by simp) (AllReadyH.cons rfl (fun K hK => ?_) (AllReadyH.cons rfl (fun K hK => ?_) (AllReadyH.cons rfl (fun K hK => ?_) AllReadyH.nil)))
      · rw [if_pos (by rfl)]
        go_simp
        go_at_call 24
        refine (HT2.out _).mono ?_
        rintro o X ⟨rfl, hb⟩
        replace hH : Below w.heap.size w X ∧ X.heap[w.heap.size]? = some (.cells (vrow 266 s.at) 31) ∧ X.heap[w.heap.size + 1]? = some (.cells (vrow 5 b.at) 47) ∧ X.heap[w.heap.size + 2]? = some (.cells (vrow 2 (spAt x y)) 48) ∧ X.heap[b0]? = some (.cells (vrow 266 r.at) 36) ∧ X.heap[b1]? = some (.cells (vrow 5 q.at) 49) := ⟨hH.1.trans (hb.mono hH.1.size), row_next hb hH.2.1, row_next hb hH.2.2.1, row_next hb hH.2.2.2.1, row_next hb hH.2.2.2.2.1, row_next hb hH.2.2.2.2.2⟩
        clear hb
        refine hK.out _ _ hH (fun hH => ?_)
        clear hK K
        (try simp only [Act.put, List.setIfInBounds_toArray, List.set_cons_succ, List.set_cons_zero])
        refine wpAnyH_at 10 #[true, true, true, true, true, true, true, false, false, false, false, false, false, false, false, false, false] (by kernel_rfl) (by kernel_rfl) ?_
        exact M3_00 X  hH
      · rw [if_pos (by rfl)]
        go_simp
        try simp only [sp_vrow]
        have V := heap_at W (.cells (vrow 266 Sh.zero.at) 36) _ rfl
        have m0 := row_lt hH.2.1
        have m1 := row_lt hH.2.2.1
        have m2 := row_lt hH.2.2.2.1
        have m3 := row_lt hH.2.2.2.2.1
        have m4 := row_lt hH.2.2.2.2.2
        replace hH : Below w.heap.size w (W.alloc (.cells (vrow 266 Sh.zero.at) 36)) ∧ (W.alloc (.cells (vrow 266 Sh.zero.at) 36)).heap[w.heap.size]? = some (.cells (vrow 266 s.at) 31) ∧ (W.alloc (.cells (vrow 266 Sh.zero.at) 36)).heap[w.heap.size + 1]? = some (.cells (vrow 5 b.at) 47) ∧ (W.alloc (.cells (vrow 266 Sh.zero.at) 36)).heap[w.heap.size + 2]? = some (.cells (vrow 2 (spAt x y)) 48) ∧ (W.alloc (.cells (vrow 266 Sh.zero.at) 36)).heap[b0]? = some (.cells (vrow 266 r.at) 36) ∧ (W.alloc (.cells (vrow 266 Sh.zero.at) 36)).heap[b1]? = some (.cells (vrow 5 q.at) 49) := ⟨hH.1.alloc hH.1.size _, heap_past _ _ _ _ m0 hH.2.1, heap_past _ _ _ _ m1 hH.2.2.1, heap_past _ _ _ _ m2 hH.2.2.2.1, heap_past _ _ _ _ m3 hH.2.2.2.2.1, heap_past _ _ _ _ m4 hH.2.2.2.2.2⟩
        refine hK.out _ _ hH (fun hH => ?_)
        clear hK K
        (try simp only [Act.put, List.setIfInBounds_toArray, List.set_cons_succ, List.set_cons_zero])
        refine wpAnyH_at 10 #[true, true, true, true, true, false, true, false, false, false, false, false, true, false, false, false, false] (by kernel_rfl) (by kernel_rfl) ?_
        exact M2_10 (W.alloc (.cells (vrow 266 Sh.zero.at) 36)) W.heap.size hH V m0 m1 m2 m3 m4
      · rw [if_pos (by rfl)]
        go_simp
        try simp only [sp_vrow]
        have V := heap_at W (.cells (vrow 5 Br.zero.at) 49) _ rfl
        have m0 := row_lt hH.2.1
        have m1 := row_lt hH.2.2.1
        have m2 := row_lt hH.2.2.2.1
        have m3 := row_lt hH.2.2.2.2.1
        have m4 := row_lt hH.2.2.2.2.2
        replace hH : Below w.heap.size w (W.alloc (.cells (vrow 5 Br.zero.at) 49)) ∧ (W.alloc (.cells (vrow 5 Br.zero.at) 49)).heap[w.heap.size]? = some (.cells (vrow 266 s.at) 31) ∧ (W.alloc (.cells (vrow 5 Br.zero.at) 49)).heap[w.heap.size + 1]? = some (.cells (vrow 5 b.at) 47) ∧ (W.alloc (.cells (vrow 5 Br.zero.at) 49)).heap[w.heap.size + 2]? = some (.cells (vrow 2 (spAt x y)) 48) ∧ (W.alloc (.cells (vrow 5 Br.zero.at) 49)).heap[b0]? = some (.cells (vrow 266 r.at) 36) ∧ (W.alloc (.cells (vrow 5 Br.zero.at) 49)).heap[b1]? = some (.cells (vrow 5 q.at) 49) := ⟨hH.1.alloc hH.1.size _, heap_past _ _ _ _ m0 hH.2.1, heap_past _ _ _ _ m1 hH.2.2.1, heap_past _ _ _ _ m2 hH.2.2.2.1, heap_past _ _ _ _ m3 hH.2.2.2.2.1, heap_past _ _ _ _ m4 hH.2.2.2.2.2⟩
        refine hK.out _ _ hH (fun hH => ?_)
        clear hK K
        (try simp only [Act.put, List.setIfInBounds_toArray, List.set_cons_succ, List.set_cons_zero])
        refine wpAnyH_at 10 #[true, true, true, true, true, false, true, false, false, false, false, false, false, true, false, false, false] (by kernel_rfl) (by kernel_rfl) ?_
        exact M2_01 (W.alloc (.cells (vrow 5 Br.zero.at) 49)) W.heap.size hH V m0 m1 m2 m3 m4
    have M1_11 : ∀ (W : World) (c0 : Nat) (c1 : Nat), (Below w.heap.size w W ∧ W.heap[w.heap.size]? = some (.cells (vrow 266 s.at) 31) ∧ W.heap[w.heap.size + 1]? = some (.cells (vrow 5 b.at) 47) ∧ W.heap[w.heap.size + 2]? = some (.cells (vrow 2 (spAt x y)) 48) ∧ W.heap[b0]? = some (.cells (vrow 266 r.at) 36) ∧ W.heap[b1]? = some (.cells (vrow 5 q.at) 49)) → W.heap[c0]? = some (.cells (vrow 266 Sh.zero.at) 36) → w.heap.size < c0 → w.heap.size + 1 < c0 → w.heap.size + 2 < c0 → b0 < c0 → b1 < c0 → W.heap[c1]? = some (.cells (vrow 5 Br.zero.at) 49) → w.heap.size < c1 → w.heap.size + 1 < c1 → w.heap.size + 2 < c1 → b0 < c1 → b1 < c1 → c0 ≠ c1 → wpAnyH Tryd.prog .any O QQ SS 10 #[true, true, true, false, true, false, true, false, false, false, false, false, true, true, false, false, false] { tmps := #[.agg (vrow 266 s.at), .agg (vrow 5 b.at), .agg (vrow 2 (spAt x y)), .int .i64 k, .pointer (some ⟨w.heap.size, 0, none⟩), .pointer (some ⟨w.heap.size + 1, 0, none⟩), .pointer (some ⟨w.heap.size + 2, 0, none⟩), undef, .bool false, .pointer (some ⟨b0, 0, none⟩), .pointer (some ⟨b1, 0, none⟩), .int .i64 c, .pointer (some ⟨c0, 0, none⟩), .pointer (some ⟨c1, 0, none⟩), undef, .tuple #[.agg (vrow 266 r.at), .agg (vrow 5 q.at), .int .i64 c], .agg (vrow 266 s.at), .agg (vrow 266 s.at), .agg (vrow 5 b.at), .agg (vrow 5 b.at), .agg (vrow 2 (spAt x y)), .agg (vrow 2 (spAt x y)), .int .i64 k, .tuple #[.agg (vrow 266 r.at), .agg (vrow 5 q.at), .int .i64 c], .agg (vrow 266 r.at), .agg (vrow 5 q.at), .int .i64 c, undef, .agg (vrow 266 s.at), .agg (vrow 266 s.at), .agg (vrow 5 b.at), undef, .agg (vrow 2 (spAt x y)), undef, .int .i64 k, undef, undef, undef, undef, undef, undef, undef, undef, undef, undef, undef, undef, undef, undef, undef, undef, undef, undef, undef], defers := [] } W := by
      intro W c0 c1 hH V0 n0_0 n0_1 n0_2 n0_3 n0_4 V1 n1_0 n1_1 n1_2 n1_3 n1_4 d0_1
      subst hO hSS hQQ
      refine wpAnyH_ready (rs := [3]) (by kernel_rfl) (by simp) (AllReadyH.cons rfl (fun K hK => ?_) AllReadyH.nil)
      · rw [if_pos (by rfl)]
        go_simp
        go_at_call 23
        refine (HT1.out _).mono ?_
        rintro o X ⟨rfl, hb⟩
        replace hH : Below w.heap.size w X ∧ X.heap[w.heap.size]? = some (.cells (vrow 266 s.at) 31) ∧ X.heap[w.heap.size + 1]? = some (.cells (vrow 5 b.at) 47) ∧ X.heap[w.heap.size + 2]? = some (.cells (vrow 2 (spAt x y)) 48) ∧ X.heap[b0]? = some (.cells (vrow 266 r.at) 36) ∧ X.heap[b1]? = some (.cells (vrow 5 q.at) 49) := ⟨hH.1.trans (hb.mono hH.1.size), row_next hb hH.2.1, row_next hb hH.2.2.1, row_next hb hH.2.2.2.1, row_next hb hH.2.2.2.2.1, row_next hb hH.2.2.2.2.2⟩
        replace V0 := row_next hb V0
        replace V1 := row_next hb V1
        clear hb
        refine hK.out _ _ hH (fun hH => ?_)
        clear hK K
        (try simp only [Act.put, List.setIfInBounds_toArray, List.set_cons_succ, List.set_cons_zero])
        refine wpAnyH_at 9 #[true, true, true, true, true, false, true, false, false, false, false, false, true, true, false, false, false] (by kernel_rfl) (by kernel_rfl) ?_
        exact M2_11 X c0 c1 hH V0 n0_0 n0_1 n0_2 n0_3 n0_4 V1 n1_0 n1_1 n1_2 n1_3 n1_4 d0_1
    have M1_10 : ∀ (W : World) (c0 : Nat), (Below w.heap.size w W ∧ W.heap[w.heap.size]? = some (.cells (vrow 266 s.at) 31) ∧ W.heap[w.heap.size + 1]? = some (.cells (vrow 5 b.at) 47) ∧ W.heap[w.heap.size + 2]? = some (.cells (vrow 2 (spAt x y)) 48) ∧ W.heap[b0]? = some (.cells (vrow 266 r.at) 36) ∧ W.heap[b1]? = some (.cells (vrow 5 q.at) 49)) → W.heap[c0]? = some (.cells (vrow 266 Sh.zero.at) 36) → w.heap.size < c0 → w.heap.size + 1 < c0 → w.heap.size + 2 < c0 → b0 < c0 → b1 < c0 → wpAnyH Tryd.prog .any O QQ SS 11 #[true, true, true, false, true, false, true, false, false, false, false, false, true, false, false, false, false] { tmps := #[.agg (vrow 266 s.at), .agg (vrow 5 b.at), .agg (vrow 2 (spAt x y)), .int .i64 k, .pointer (some ⟨w.heap.size, 0, none⟩), .pointer (some ⟨w.heap.size + 1, 0, none⟩), .pointer (some ⟨w.heap.size + 2, 0, none⟩), undef, .bool false, .pointer (some ⟨b0, 0, none⟩), .pointer (some ⟨b1, 0, none⟩), .int .i64 c, .pointer (some ⟨c0, 0, none⟩), undef, undef, .tuple #[.agg (vrow 266 r.at), .agg (vrow 5 q.at), .int .i64 c], .agg (vrow 266 s.at), .agg (vrow 266 s.at), .agg (vrow 5 b.at), .agg (vrow 5 b.at), .agg (vrow 2 (spAt x y)), .agg (vrow 2 (spAt x y)), .int .i64 k, .tuple #[.agg (vrow 266 r.at), .agg (vrow 5 q.at), .int .i64 c], .agg (vrow 266 r.at), .agg (vrow 5 q.at), .int .i64 c, undef, .agg (vrow 266 s.at), .agg (vrow 266 s.at), .agg (vrow 5 b.at), undef, .agg (vrow 2 (spAt x y)), undef, .int .i64 k, undef, undef, undef, undef, undef, undef, undef, undef, undef, undef, undef, undef, undef, undef, undef, undef, undef, undef, undef], defers := [] } W := by
      intro W c0 hH V0 n0_0 n0_1 n0_2 n0_3 n0_4
      subst hO hSS hQQ
      refine wpAnyH_ready (rs := [3, 13]) (by kernel_rfl) (by simp) (AllReadyH.cons rfl (fun K hK => ?_) (AllReadyH.cons rfl (fun K hK => ?_) AllReadyH.nil))
      · rw [if_pos (by rfl)]
        go_simp
        go_at_call 23
        refine (HT1.out _).mono ?_
        rintro o X ⟨rfl, hb⟩
        replace hH : Below w.heap.size w X ∧ X.heap[w.heap.size]? = some (.cells (vrow 266 s.at) 31) ∧ X.heap[w.heap.size + 1]? = some (.cells (vrow 5 b.at) 47) ∧ X.heap[w.heap.size + 2]? = some (.cells (vrow 2 (spAt x y)) 48) ∧ X.heap[b0]? = some (.cells (vrow 266 r.at) 36) ∧ X.heap[b1]? = some (.cells (vrow 5 q.at) 49) := ⟨hH.1.trans (hb.mono hH.1.size), row_next hb hH.2.1, row_next hb hH.2.2.1, row_next hb hH.2.2.2.1, row_next hb hH.2.2.2.2.1, row_next hb hH.2.2.2.2.2⟩
        replace V0 := row_next hb V0
        clear hb
        refine hK.out _ _ hH (fun hH => ?_)
        clear hK K
        (try simp only [Act.put, List.setIfInBounds_toArray, List.set_cons_succ, List.set_cons_zero])
        refine wpAnyH_at 10 #[true, true, true, true, true, false, true, false, false, false, false, false, true, false, false, false, false] (by kernel_rfl) (by kernel_rfl) ?_
        exact M2_10 X c0 hH V0 n0_0 n0_1 n0_2 n0_3 n0_4
      · rw [if_pos (by rfl)]
        go_simp
        try simp only [sp_vrow]
        have V := heap_at W (.cells (vrow 5 Br.zero.at) 49) _ rfl
        have m0 := row_lt hH.2.1
        have m1 := row_lt hH.2.2.1
        have m2 := row_lt hH.2.2.2.1
        have m3 := row_lt hH.2.2.2.2.1
        have m4 := row_lt hH.2.2.2.2.2
        have mm0 := row_lt V0
        replace V0 := heap_past _ (.cells (vrow 5 Br.zero.at) 49) _ _ mm0 V0
        replace hH : Below w.heap.size w (W.alloc (.cells (vrow 5 Br.zero.at) 49)) ∧ (W.alloc (.cells (vrow 5 Br.zero.at) 49)).heap[w.heap.size]? = some (.cells (vrow 266 s.at) 31) ∧ (W.alloc (.cells (vrow 5 Br.zero.at) 49)).heap[w.heap.size + 1]? = some (.cells (vrow 5 b.at) 47) ∧ (W.alloc (.cells (vrow 5 Br.zero.at) 49)).heap[w.heap.size + 2]? = some (.cells (vrow 2 (spAt x y)) 48) ∧ (W.alloc (.cells (vrow 5 Br.zero.at) 49)).heap[b0]? = some (.cells (vrow 266 r.at) 36) ∧ (W.alloc (.cells (vrow 5 Br.zero.at) 49)).heap[b1]? = some (.cells (vrow 5 q.at) 49) := ⟨hH.1.alloc hH.1.size _, heap_past _ _ _ _ m0 hH.2.1, heap_past _ _ _ _ m1 hH.2.2.1, heap_past _ _ _ _ m2 hH.2.2.2.1, heap_past _ _ _ _ m3 hH.2.2.2.2.1, heap_past _ _ _ _ m4 hH.2.2.2.2.2⟩
        refine hK.out _ _ hH (fun hH => ?_)
        clear hK K
        (try simp only [Act.put, List.setIfInBounds_toArray, List.set_cons_succ, List.set_cons_zero])
        refine wpAnyH_at 10 #[true, true, true, false, true, false, true, false, false, false, false, false, true, true, false, false, false] (by kernel_rfl) (by kernel_rfl) ?_
        exact M1_11 (W.alloc (.cells (vrow 5 Br.zero.at) 49)) c0 W.heap.size hH V0 n0_0 n0_1 n0_2 n0_3 n0_4 V m0 m1 m2 m3 m4 (by omega)
    have M1_01 : ∀ (W : World) (c1 : Nat), (Below w.heap.size w W ∧ W.heap[w.heap.size]? = some (.cells (vrow 266 s.at) 31) ∧ W.heap[w.heap.size + 1]? = some (.cells (vrow 5 b.at) 47) ∧ W.heap[w.heap.size + 2]? = some (.cells (vrow 2 (spAt x y)) 48) ∧ W.heap[b0]? = some (.cells (vrow 266 r.at) 36) ∧ W.heap[b1]? = some (.cells (vrow 5 q.at) 49)) → W.heap[c1]? = some (.cells (vrow 5 Br.zero.at) 49) → w.heap.size < c1 → w.heap.size + 1 < c1 → w.heap.size + 2 < c1 → b0 < c1 → b1 < c1 → wpAnyH Tryd.prog .any O QQ SS 11 #[true, true, true, false, true, false, true, false, false, false, false, false, false, true, false, false, false] { tmps := #[.agg (vrow 266 s.at), .agg (vrow 5 b.at), .agg (vrow 2 (spAt x y)), .int .i64 k, .pointer (some ⟨w.heap.size, 0, none⟩), .pointer (some ⟨w.heap.size + 1, 0, none⟩), .pointer (some ⟨w.heap.size + 2, 0, none⟩), undef, .bool false, .pointer (some ⟨b0, 0, none⟩), .pointer (some ⟨b1, 0, none⟩), .int .i64 c, undef, .pointer (some ⟨c1, 0, none⟩), undef, .tuple #[.agg (vrow 266 r.at), .agg (vrow 5 q.at), .int .i64 c], .agg (vrow 266 s.at), .agg (vrow 266 s.at), .agg (vrow 5 b.at), .agg (vrow 5 b.at), .agg (vrow 2 (spAt x y)), .agg (vrow 2 (spAt x y)), .int .i64 k, .tuple #[.agg (vrow 266 r.at), .agg (vrow 5 q.at), .int .i64 c], .agg (vrow 266 r.at), .agg (vrow 5 q.at), .int .i64 c, undef, .agg (vrow 266 s.at), .agg (vrow 266 s.at), .agg (vrow 5 b.at), undef, .agg (vrow 2 (spAt x y)), undef, .int .i64 k, undef, undef, undef, undef, undef, undef, undef, undef, undef, undef, undef, undef, undef, undef, undef, undef, undef, undef, undef], defers := [] } W := by
      intro W c1 hH V1 n1_0 n1_1 n1_2 n1_3 n1_4
      subst hO hSS hQQ
      refine wpAnyH_ready (rs := [3, 12]) (by kernel_rfl) (by simp) (AllReadyH.cons rfl (fun K hK => ?_) (AllReadyH.cons rfl (fun K hK => ?_) AllReadyH.nil))
      · rw [if_pos (by rfl)]
        go_simp
        go_at_call 23
        refine (HT1.out _).mono ?_
        rintro o X ⟨rfl, hb⟩
        replace hH : Below w.heap.size w X ∧ X.heap[w.heap.size]? = some (.cells (vrow 266 s.at) 31) ∧ X.heap[w.heap.size + 1]? = some (.cells (vrow 5 b.at) 47) ∧ X.heap[w.heap.size + 2]? = some (.cells (vrow 2 (spAt x y)) 48) ∧ X.heap[b0]? = some (.cells (vrow 266 r.at) 36) ∧ X.heap[b1]? = some (.cells (vrow 5 q.at) 49) := ⟨hH.1.trans (hb.mono hH.1.size), row_next hb hH.2.1, row_next hb hH.2.2.1, row_next hb hH.2.2.2.1, row_next hb hH.2.2.2.2.1, row_next hb hH.2.2.2.2.2⟩
        replace V1 := row_next hb V1
        clear hb
        refine hK.out _ _ hH (fun hH => ?_)
        clear hK K
        (try simp only [Act.put, List.setIfInBounds_toArray, List.set_cons_succ, List.set_cons_zero])
        refine wpAnyH_at 10 #[true, true, true, true, true, false, true, false, false, false, false, false, false, true, false, false, false] (by kernel_rfl) (by kernel_rfl) ?_
        exact M2_01 X c1 hH V1 n1_0 n1_1 n1_2 n1_3 n1_4
      · rw [if_pos (by rfl)]
        go_simp
        try simp only [sp_vrow]
        have V := heap_at W (.cells (vrow 266 Sh.zero.at) 36) _ rfl
        have m0 := row_lt hH.2.1
        have m1 := row_lt hH.2.2.1
        have m2 := row_lt hH.2.2.2.1
        have m3 := row_lt hH.2.2.2.2.1
        have m4 := row_lt hH.2.2.2.2.2
        have mm1 := row_lt V1
        replace V1 := heap_past _ (.cells (vrow 266 Sh.zero.at) 36) _ _ mm1 V1
        replace hH : Below w.heap.size w (W.alloc (.cells (vrow 266 Sh.zero.at) 36)) ∧ (W.alloc (.cells (vrow 266 Sh.zero.at) 36)).heap[w.heap.size]? = some (.cells (vrow 266 s.at) 31) ∧ (W.alloc (.cells (vrow 266 Sh.zero.at) 36)).heap[w.heap.size + 1]? = some (.cells (vrow 5 b.at) 47) ∧ (W.alloc (.cells (vrow 266 Sh.zero.at) 36)).heap[w.heap.size + 2]? = some (.cells (vrow 2 (spAt x y)) 48) ∧ (W.alloc (.cells (vrow 266 Sh.zero.at) 36)).heap[b0]? = some (.cells (vrow 266 r.at) 36) ∧ (W.alloc (.cells (vrow 266 Sh.zero.at) 36)).heap[b1]? = some (.cells (vrow 5 q.at) 49) := ⟨hH.1.alloc hH.1.size _, heap_past _ _ _ _ m0 hH.2.1, heap_past _ _ _ _ m1 hH.2.2.1, heap_past _ _ _ _ m2 hH.2.2.2.1, heap_past _ _ _ _ m3 hH.2.2.2.2.1, heap_past _ _ _ _ m4 hH.2.2.2.2.2⟩
        refine hK.out _ _ hH (fun hH => ?_)
        clear hK K
        (try simp only [Act.put, List.setIfInBounds_toArray, List.set_cons_succ, List.set_cons_zero])
        refine wpAnyH_at 10 #[true, true, true, false, true, false, true, false, false, false, false, false, true, true, false, false, false] (by kernel_rfl) (by kernel_rfl) ?_
        exact M1_11 (W.alloc (.cells (vrow 266 Sh.zero.at) 36)) W.heap.size c1 hH V m0 m1 m2 m3 m4 V1 n1_0 n1_1 n1_2 n1_3 n1_4 (by omega)
    have M1_00 : ∀ (W : World), (Below w.heap.size w W ∧ W.heap[w.heap.size]? = some (.cells (vrow 266 s.at) 31) ∧ W.heap[w.heap.size + 1]? = some (.cells (vrow 5 b.at) 47) ∧ W.heap[w.heap.size + 2]? = some (.cells (vrow 2 (spAt x y)) 48) ∧ W.heap[b0]? = some (.cells (vrow 266 r.at) 36) ∧ W.heap[b1]? = some (.cells (vrow 5 q.at) 49)) → wpAnyH Tryd.prog .any O QQ SS 12 #[true, true, true, false, true, false, true, false, false, false, false, false, false, false, false, false, false] { tmps := #[.agg (vrow 266 s.at), .agg (vrow 5 b.at), .agg (vrow 2 (spAt x y)), .int .i64 k, .pointer (some ⟨w.heap.size, 0, none⟩), .pointer (some ⟨w.heap.size + 1, 0, none⟩), .pointer (some ⟨w.heap.size + 2, 0, none⟩), undef, .bool false, .pointer (some ⟨b0, 0, none⟩), .pointer (some ⟨b1, 0, none⟩), .int .i64 c, undef, undef, undef, .tuple #[.agg (vrow 266 r.at), .agg (vrow 5 q.at), .int .i64 c], .agg (vrow 266 s.at), .agg (vrow 266 s.at), .agg (vrow 5 b.at), .agg (vrow 5 b.at), .agg (vrow 2 (spAt x y)), .agg (vrow 2 (spAt x y)), .int .i64 k, .tuple #[.agg (vrow 266 r.at), .agg (vrow 5 q.at), .int .i64 c], .agg (vrow 266 r.at), .agg (vrow 5 q.at), .int .i64 c, undef, .agg (vrow 266 s.at), .agg (vrow 266 s.at), .agg (vrow 5 b.at), undef, .agg (vrow 2 (spAt x y)), undef, .int .i64 k, undef, undef, undef, undef, undef, undef, undef, undef, undef, undef, undef, undef, undef, undef, undef, undef, undef, undef, undef], defers := [] } W := by
      intro W hH
      subst hO hSS hQQ
      refine wpAnyH_ready (rs := [3, 12, 13]) (by kernel_rfl) (by simp) (AllReadyH.cons rfl (fun K hK => ?_) (AllReadyH.cons rfl (fun K hK => ?_) (AllReadyH.cons rfl (fun K hK => ?_) AllReadyH.nil)))
      · rw [if_pos (by rfl)]
        go_simp
        go_at_call 23
        refine (HT1.out _).mono ?_
        rintro o X ⟨rfl, hb⟩
        replace hH : Below w.heap.size w X ∧ X.heap[w.heap.size]? = some (.cells (vrow 266 s.at) 31) ∧ X.heap[w.heap.size + 1]? = some (.cells (vrow 5 b.at) 47) ∧ X.heap[w.heap.size + 2]? = some (.cells (vrow 2 (spAt x y)) 48) ∧ X.heap[b0]? = some (.cells (vrow 266 r.at) 36) ∧ X.heap[b1]? = some (.cells (vrow 5 q.at) 49) := ⟨hH.1.trans (hb.mono hH.1.size), row_next hb hH.2.1, row_next hb hH.2.2.1, row_next hb hH.2.2.2.1, row_next hb hH.2.2.2.2.1, row_next hb hH.2.2.2.2.2⟩
        clear hb
        refine hK.out _ _ hH (fun hH => ?_)
        clear hK K
        (try simp only [Act.put, List.setIfInBounds_toArray, List.set_cons_succ, List.set_cons_zero])
        refine wpAnyH_at 11 #[true, true, true, true, true, false, true, false, false, false, false, false, false, false, false, false, false] (by kernel_rfl) (by kernel_rfl) ?_
        exact M2_00 X  hH
      · rw [if_pos (by rfl)]
        go_simp
        try simp only [sp_vrow]
        have V := heap_at W (.cells (vrow 266 Sh.zero.at) 36) _ rfl
        have m0 := row_lt hH.2.1
        have m1 := row_lt hH.2.2.1
        have m2 := row_lt hH.2.2.2.1
        have m3 := row_lt hH.2.2.2.2.1
        have m4 := row_lt hH.2.2.2.2.2
        replace hH : Below w.heap.size w (W.alloc (.cells (vrow 266 Sh.zero.at) 36)) ∧ (W.alloc (.cells (vrow 266 Sh.zero.at) 36)).heap[w.heap.size]? = some (.cells (vrow 266 s.at) 31) ∧ (W.alloc (.cells (vrow 266 Sh.zero.at) 36)).heap[w.heap.size + 1]? = some (.cells (vrow 5 b.at) 47) ∧ (W.alloc (.cells (vrow 266 Sh.zero.at) 36)).heap[w.heap.size + 2]? = some (.cells (vrow 2 (spAt x y)) 48) ∧ (W.alloc (.cells (vrow 266 Sh.zero.at) 36)).heap[b0]? = some (.cells (vrow 266 r.at) 36) ∧ (W.alloc (.cells (vrow 266 Sh.zero.at) 36)).heap[b1]? = some (.cells (vrow 5 q.at) 49) := ⟨hH.1.alloc hH.1.size _, heap_past _ _ _ _ m0 hH.2.1, heap_past _ _ _ _ m1 hH.2.2.1, heap_past _ _ _ _ m2 hH.2.2.2.1, heap_past _ _ _ _ m3 hH.2.2.2.2.1, heap_past _ _ _ _ m4 hH.2.2.2.2.2⟩
        refine hK.out _ _ hH (fun hH => ?_)
        clear hK K
        (try simp only [Act.put, List.setIfInBounds_toArray, List.set_cons_succ, List.set_cons_zero])
        refine wpAnyH_at 11 #[true, true, true, false, true, false, true, false, false, false, false, false, true, false, false, false, false] (by kernel_rfl) (by kernel_rfl) ?_
        exact M1_10 (W.alloc (.cells (vrow 266 Sh.zero.at) 36)) W.heap.size hH V m0 m1 m2 m3 m4
      · rw [if_pos (by rfl)]
        go_simp
        try simp only [sp_vrow]
        have V := heap_at W (.cells (vrow 5 Br.zero.at) 49) _ rfl
        have m0 := row_lt hH.2.1
        have m1 := row_lt hH.2.2.1
        have m2 := row_lt hH.2.2.2.1
        have m3 := row_lt hH.2.2.2.2.1
        have m4 := row_lt hH.2.2.2.2.2
        replace hH : Below w.heap.size w (W.alloc (.cells (vrow 5 Br.zero.at) 49)) ∧ (W.alloc (.cells (vrow 5 Br.zero.at) 49)).heap[w.heap.size]? = some (.cells (vrow 266 s.at) 31) ∧ (W.alloc (.cells (vrow 5 Br.zero.at) 49)).heap[w.heap.size + 1]? = some (.cells (vrow 5 b.at) 47) ∧ (W.alloc (.cells (vrow 5 Br.zero.at) 49)).heap[w.heap.size + 2]? = some (.cells (vrow 2 (spAt x y)) 48) ∧ (W.alloc (.cells (vrow 5 Br.zero.at) 49)).heap[b0]? = some (.cells (vrow 266 r.at) 36) ∧ (W.alloc (.cells (vrow 5 Br.zero.at) 49)).heap[b1]? = some (.cells (vrow 5 q.at) 49) := ⟨hH.1.alloc hH.1.size _, heap_past _ _ _ _ m0 hH.2.1, heap_past _ _ _ _ m1 hH.2.2.1, heap_past _ _ _ _ m2 hH.2.2.2.1, heap_past _ _ _ _ m3 hH.2.2.2.2.1, heap_past _ _ _ _ m4 hH.2.2.2.2.2⟩
        refine hK.out _ _ hH (fun hH => ?_)
        clear hK K
        (try simp only [Act.put, List.setIfInBounds_toArray, List.set_cons_succ, List.set_cons_zero])
        refine wpAnyH_at 11 #[true, true, true, false, true, false, true, false, false, false, false, false, false, true, false, false, false] (by kernel_rfl) (by kernel_rfl) ?_
        exact M1_01 (W.alloc (.cells (vrow 5 Br.zero.at) 49)) W.heap.size hH V m0 m1 m2 m3 m4
    have M0_11 : ∀ (W : World) (c0 : Nat) (c1 : Nat), (Below w.heap.size w W ∧ W.heap[w.heap.size]? = some (.cells (vrow 266 s.at) 31) ∧ W.heap[w.heap.size + 1]? = some (.cells (vrow 5 b.at) 47) ∧ W.heap[w.heap.size + 2]? = some (.cells (vrow 2 (spAt x y)) 48) ∧ W.heap[b0]? = some (.cells (vrow 266 r.at) 36) ∧ W.heap[b1]? = some (.cells (vrow 5 q.at) 49)) → W.heap[c0]? = some (.cells (vrow 266 Sh.zero.at) 36) → w.heap.size < c0 → w.heap.size + 1 < c0 → w.heap.size + 2 < c0 → b0 < c0 → b1 < c0 → W.heap[c1]? = some (.cells (vrow 5 Br.zero.at) 49) → w.heap.size < c1 → w.heap.size + 1 < c1 → w.heap.size + 2 < c1 → b0 < c1 → b1 < c1 → c0 ≠ c1 → wpAnyH Tryd.prog .any O QQ SS 11 #[true, false, true, false, true, false, true, false, false, false, false, false, true, true, false, false, false] { tmps := #[.agg (vrow 266 s.at), .agg (vrow 5 b.at), .agg (vrow 2 (spAt x y)), .int .i64 k, .pointer (some ⟨w.heap.size, 0, none⟩), .pointer (some ⟨w.heap.size + 1, 0, none⟩), .pointer (some ⟨w.heap.size + 2, 0, none⟩), undef, .bool false, .pointer (some ⟨b0, 0, none⟩), .pointer (some ⟨b1, 0, none⟩), .int .i64 c, .pointer (some ⟨c0, 0, none⟩), .pointer (some ⟨c1, 0, none⟩), undef, .tuple #[.agg (vrow 266 r.at), .agg (vrow 5 q.at), .int .i64 c], .agg (vrow 266 s.at), .agg (vrow 266 s.at), .agg (vrow 5 b.at), .agg (vrow 5 b.at), .agg (vrow 2 (spAt x y)), .agg (vrow 2 (spAt x y)), .int .i64 k, .tuple #[.agg (vrow 266 r.at), .agg (vrow 5 q.at), .int .i64 c], .agg (vrow 266 r.at), .agg (vrow 5 q.at), .int .i64 c, undef, .agg (vrow 266 s.at), undef, .agg (vrow 5 b.at), undef, .agg (vrow 2 (spAt x y)), undef, .int .i64 k, undef, undef, undef, undef, undef, undef, undef, undef, undef, undef, undef, undef, undef, undef, undef, undef, undef, undef, undef], defers := [] } W := by
      intro W c0 c1 hH V0 n0_0 n0_1 n0_2 n0_3 n0_4 V1 n1_0 n1_1 n1_2 n1_3 n1_4 d0_1
      subst hO hSS hQQ
      refine wpAnyH_ready (rs := [1]) (by kernel_rfl) (by simp) (AllReadyH.cons rfl (fun K hK => ?_) AllReadyH.nil)
      · rw [if_pos (by rfl)]
        go_simp
        go_at_call 15
        refine (HT0.out _).mono ?_
        rintro o X ⟨rfl, hb⟩
        replace hH : Below w.heap.size w X ∧ X.heap[w.heap.size]? = some (.cells (vrow 266 s.at) 31) ∧ X.heap[w.heap.size + 1]? = some (.cells (vrow 5 b.at) 47) ∧ X.heap[w.heap.size + 2]? = some (.cells (vrow 2 (spAt x y)) 48) ∧ X.heap[b0]? = some (.cells (vrow 266 r.at) 36) ∧ X.heap[b1]? = some (.cells (vrow 5 q.at) 49) := ⟨hH.1.trans (hb.mono hH.1.size), row_next hb hH.2.1, row_next hb hH.2.2.1, row_next hb hH.2.2.2.1, row_next hb hH.2.2.2.2.1, row_next hb hH.2.2.2.2.2⟩
        replace V0 := row_next hb V0
        replace V1 := row_next hb V1
        clear hb
        refine hK.out _ _ hH (fun hH => ?_)
        clear hK K
        (try simp only [Act.put, List.setIfInBounds_toArray, List.set_cons_succ, List.set_cons_zero])
        refine wpAnyH_at 10 #[true, true, true, false, true, false, true, false, false, false, false, false, true, true, false, false, false] (by kernel_rfl) (by kernel_rfl) ?_
        exact M1_11 X c0 c1 hH V0 n0_0 n0_1 n0_2 n0_3 n0_4 V1 n1_0 n1_1 n1_2 n1_3 n1_4 d0_1
    have M0_10 : ∀ (W : World) (c0 : Nat), (Below w.heap.size w W ∧ W.heap[w.heap.size]? = some (.cells (vrow 266 s.at) 31) ∧ W.heap[w.heap.size + 1]? = some (.cells (vrow 5 b.at) 47) ∧ W.heap[w.heap.size + 2]? = some (.cells (vrow 2 (spAt x y)) 48) ∧ W.heap[b0]? = some (.cells (vrow 266 r.at) 36) ∧ W.heap[b1]? = some (.cells (vrow 5 q.at) 49)) → W.heap[c0]? = some (.cells (vrow 266 Sh.zero.at) 36) → w.heap.size < c0 → w.heap.size + 1 < c0 → w.heap.size + 2 < c0 → b0 < c0 → b1 < c0 → wpAnyH Tryd.prog .any O QQ SS 12 #[true, false, true, false, true, false, true, false, false, false, false, false, true, false, false, false, false] { tmps := #[.agg (vrow 266 s.at), .agg (vrow 5 b.at), .agg (vrow 2 (spAt x y)), .int .i64 k, .pointer (some ⟨w.heap.size, 0, none⟩), .pointer (some ⟨w.heap.size + 1, 0, none⟩), .pointer (some ⟨w.heap.size + 2, 0, none⟩), undef, .bool false, .pointer (some ⟨b0, 0, none⟩), .pointer (some ⟨b1, 0, none⟩), .int .i64 c, .pointer (some ⟨c0, 0, none⟩), undef, undef, .tuple #[.agg (vrow 266 r.at), .agg (vrow 5 q.at), .int .i64 c], .agg (vrow 266 s.at), .agg (vrow 266 s.at), .agg (vrow 5 b.at), .agg (vrow 5 b.at), .agg (vrow 2 (spAt x y)), .agg (vrow 2 (spAt x y)), .int .i64 k, .tuple #[.agg (vrow 266 r.at), .agg (vrow 5 q.at), .int .i64 c], .agg (vrow 266 r.at), .agg (vrow 5 q.at), .int .i64 c, undef, .agg (vrow 266 s.at), undef, .agg (vrow 5 b.at), undef, .agg (vrow 2 (spAt x y)), undef, .int .i64 k, undef, undef, undef, undef, undef, undef, undef, undef, undef, undef, undef, undef, undef, undef, undef, undef, undef, undef, undef], defers := [] } W := by
      intro W c0 hH V0 n0_0 n0_1 n0_2 n0_3 n0_4
      subst hO hSS hQQ
      refine wpAnyH_ready (rs := [1, 13]) (by kernel_rfl) (by simp) (AllReadyH.cons rfl (fun K hK => ?_) (AllReadyH.cons rfl (fun K hK => ?_) AllReadyH.nil))
      · rw [if_pos (by rfl)]
        go_simp
        go_at_call 15
        refine (HT0.out _).mono ?_
        rintro o X ⟨rfl, hb⟩
        replace hH : Below w.heap.size w X ∧ X.heap[w.heap.size]? = some (.cells (vrow 266 s.at) 31) ∧ X.heap[w.heap.size + 1]? = some (.cells (vrow 5 b.at) 47) ∧ X.heap[w.heap.size + 2]? = some (.cells (vrow 2 (spAt x y)) 48) ∧ X.heap[b0]? = some (.cells (vrow 266 r.at) 36) ∧ X.heap[b1]? = some (.cells (vrow 5 q.at) 49) := ⟨hH.1.trans (hb.mono hH.1.size), row_next hb hH.2.1, row_next hb hH.2.2.1, row_next hb hH.2.2.2.1, row_next hb hH.2.2.2.2.1, row_next hb hH.2.2.2.2.2⟩
        replace V0 := row_next hb V0
        clear hb
        refine hK.out _ _ hH (fun hH => ?_)
        clear hK K
        (try simp only [Act.put, List.setIfInBounds_toArray, List.set_cons_succ, List.set_cons_zero])
        refine wpAnyH_at 11 #[true, true, true, false, true, false, true, false, false, false, false, false, true, false, false, false, false] (by kernel_rfl) (by kernel_rfl) ?_
        exact M1_10 X c0 hH V0 n0_0 n0_1 n0_2 n0_3 n0_4
      · rw [if_pos (by rfl)]
        go_simp
        try simp only [sp_vrow]
        have V := heap_at W (.cells (vrow 5 Br.zero.at) 49) _ rfl
        have m0 := row_lt hH.2.1
        have m1 := row_lt hH.2.2.1
        have m2 := row_lt hH.2.2.2.1
        have m3 := row_lt hH.2.2.2.2.1
        have m4 := row_lt hH.2.2.2.2.2
        have mm0 := row_lt V0
        replace V0 := heap_past _ (.cells (vrow 5 Br.zero.at) 49) _ _ mm0 V0
        replace hH : Below w.heap.size w (W.alloc (.cells (vrow 5 Br.zero.at) 49)) ∧ (W.alloc (.cells (vrow 5 Br.zero.at) 49)).heap[w.heap.size]? = some (.cells (vrow 266 s.at) 31) ∧ (W.alloc (.cells (vrow 5 Br.zero.at) 49)).heap[w.heap.size + 1]? = some (.cells (vrow 5 b.at) 47) ∧ (W.alloc (.cells (vrow 5 Br.zero.at) 49)).heap[w.heap.size + 2]? = some (.cells (vrow 2 (spAt x y)) 48) ∧ (W.alloc (.cells (vrow 5 Br.zero.at) 49)).heap[b0]? = some (.cells (vrow 266 r.at) 36) ∧ (W.alloc (.cells (vrow 5 Br.zero.at) 49)).heap[b1]? = some (.cells (vrow 5 q.at) 49) := ⟨hH.1.alloc hH.1.size _, heap_past _ _ _ _ m0 hH.2.1, heap_past _ _ _ _ m1 hH.2.2.1, heap_past _ _ _ _ m2 hH.2.2.2.1, heap_past _ _ _ _ m3 hH.2.2.2.2.1, heap_past _ _ _ _ m4 hH.2.2.2.2.2⟩
        refine hK.out _ _ hH (fun hH => ?_)
        clear hK K
        (try simp only [Act.put, List.setIfInBounds_toArray, List.set_cons_succ, List.set_cons_zero])
        refine wpAnyH_at 11 #[true, false, true, false, true, false, true, false, false, false, false, false, true, true, false, false, false] (by kernel_rfl) (by kernel_rfl) ?_
        exact M0_11 (W.alloc (.cells (vrow 5 Br.zero.at) 49)) c0 W.heap.size hH V0 n0_0 n0_1 n0_2 n0_3 n0_4 V m0 m1 m2 m3 m4 (by omega)
    have M0_01 : ∀ (W : World) (c1 : Nat), (Below w.heap.size w W ∧ W.heap[w.heap.size]? = some (.cells (vrow 266 s.at) 31) ∧ W.heap[w.heap.size + 1]? = some (.cells (vrow 5 b.at) 47) ∧ W.heap[w.heap.size + 2]? = some (.cells (vrow 2 (spAt x y)) 48) ∧ W.heap[b0]? = some (.cells (vrow 266 r.at) 36) ∧ W.heap[b1]? = some (.cells (vrow 5 q.at) 49)) → W.heap[c1]? = some (.cells (vrow 5 Br.zero.at) 49) → w.heap.size < c1 → w.heap.size + 1 < c1 → w.heap.size + 2 < c1 → b0 < c1 → b1 < c1 → wpAnyH Tryd.prog .any O QQ SS 12 #[true, false, true, false, true, false, true, false, false, false, false, false, false, true, false, false, false] { tmps := #[.agg (vrow 266 s.at), .agg (vrow 5 b.at), .agg (vrow 2 (spAt x y)), .int .i64 k, .pointer (some ⟨w.heap.size, 0, none⟩), .pointer (some ⟨w.heap.size + 1, 0, none⟩), .pointer (some ⟨w.heap.size + 2, 0, none⟩), undef, .bool false, .pointer (some ⟨b0, 0, none⟩), .pointer (some ⟨b1, 0, none⟩), .int .i64 c, undef, .pointer (some ⟨c1, 0, none⟩), undef, .tuple #[.agg (vrow 266 r.at), .agg (vrow 5 q.at), .int .i64 c], .agg (vrow 266 s.at), .agg (vrow 266 s.at), .agg (vrow 5 b.at), .agg (vrow 5 b.at), .agg (vrow 2 (spAt x y)), .agg (vrow 2 (spAt x y)), .int .i64 k, .tuple #[.agg (vrow 266 r.at), .agg (vrow 5 q.at), .int .i64 c], .agg (vrow 266 r.at), .agg (vrow 5 q.at), .int .i64 c, undef, .agg (vrow 266 s.at), undef, .agg (vrow 5 b.at), undef, .agg (vrow 2 (spAt x y)), undef, .int .i64 k, undef, undef, undef, undef, undef, undef, undef, undef, undef, undef, undef, undef, undef, undef, undef, undef, undef, undef, undef], defers := [] } W := by
      intro W c1 hH V1 n1_0 n1_1 n1_2 n1_3 n1_4
      subst hO hSS hQQ
      refine wpAnyH_ready (rs := [1, 12]) (by kernel_rfl) (by simp) (AllReadyH.cons rfl (fun K hK => ?_) (AllReadyH.cons rfl (fun K hK => ?_) AllReadyH.nil))
      · rw [if_pos (by rfl)]
        go_simp
        go_at_call 15
        refine (HT0.out _).mono ?_
        rintro o X ⟨rfl, hb⟩
        replace hH : Below w.heap.size w X ∧ X.heap[w.heap.size]? = some (.cells (vrow 266 s.at) 31) ∧ X.heap[w.heap.size + 1]? = some (.cells (vrow 5 b.at) 47) ∧ X.heap[w.heap.size + 2]? = some (.cells (vrow 2 (spAt x y)) 48) ∧ X.heap[b0]? = some (.cells (vrow 266 r.at) 36) ∧ X.heap[b1]? = some (.cells (vrow 5 q.at) 49) := ⟨hH.1.trans (hb.mono hH.1.size), row_next hb hH.2.1, row_next hb hH.2.2.1, row_next hb hH.2.2.2.1, row_next hb hH.2.2.2.2.1, row_next hb hH.2.2.2.2.2⟩
        replace V1 := row_next hb V1
        clear hb
        refine hK.out _ _ hH (fun hH => ?_)
        clear hK K
        (try simp only [Act.put, List.setIfInBounds_toArray, List.set_cons_succ, List.set_cons_zero])
        refine wpAnyH_at 11 #[true, true, true, false, true, false, true, false, false, false, false, false, false, true, false, false, false] (by kernel_rfl) (by kernel_rfl) ?_
        exact M1_01 X c1 hH V1 n1_0 n1_1 n1_2 n1_3 n1_4
      · rw [if_pos (by rfl)]
        go_simp
        try simp only [sp_vrow]
        have V := heap_at W (.cells (vrow 266 Sh.zero.at) 36) _ rfl
        have m0 := row_lt hH.2.1
        have m1 := row_lt hH.2.2.1
        have m2 := row_lt hH.2.2.2.1
        have m3 := row_lt hH.2.2.2.2.1
        have m4 := row_lt hH.2.2.2.2.2
        have mm1 := row_lt V1
        replace V1 := heap_past _ (.cells (vrow 266 Sh.zero.at) 36) _ _ mm1 V1
        replace hH : Below w.heap.size w (W.alloc (.cells (vrow 266 Sh.zero.at) 36)) ∧ (W.alloc (.cells (vrow 266 Sh.zero.at) 36)).heap[w.heap.size]? = some (.cells (vrow 266 s.at) 31) ∧ (W.alloc (.cells (vrow 266 Sh.zero.at) 36)).heap[w.heap.size + 1]? = some (.cells (vrow 5 b.at) 47) ∧ (W.alloc (.cells (vrow 266 Sh.zero.at) 36)).heap[w.heap.size + 2]? = some (.cells (vrow 2 (spAt x y)) 48) ∧ (W.alloc (.cells (vrow 266 Sh.zero.at) 36)).heap[b0]? = some (.cells (vrow 266 r.at) 36) ∧ (W.alloc (.cells (vrow 266 Sh.zero.at) 36)).heap[b1]? = some (.cells (vrow 5 q.at) 49) := ⟨hH.1.alloc hH.1.size _, heap_past _ _ _ _ m0 hH.2.1, heap_past _ _ _ _ m1 hH.2.2.1, heap_past _ _ _ _ m2 hH.2.2.2.1, heap_past _ _ _ _ m3 hH.2.2.2.2.1, heap_past _ _ _ _ m4 hH.2.2.2.2.2⟩
        refine hK.out _ _ hH (fun hH => ?_)
        clear hK K
        (try simp only [Act.put, List.setIfInBounds_toArray, List.set_cons_succ, List.set_cons_zero])
        refine wpAnyH_at 11 #[true, false, true, false, true, false, true, false, false, false, false, false, true, true, false, false, false] (by kernel_rfl) (by kernel_rfl) ?_
        exact M0_11 (W.alloc (.cells (vrow 266 Sh.zero.at) 36)) W.heap.size c1 hH V m0 m1 m2 m3 m4 V1 n1_0 n1_1 n1_2 n1_3 n1_4 (by omega)
    have M0_00 : ∀ (W : World), (Below w.heap.size w W ∧ W.heap[w.heap.size]? = some (.cells (vrow 266 s.at) 31) ∧ W.heap[w.heap.size + 1]? = some (.cells (vrow 5 b.at) 47) ∧ W.heap[w.heap.size + 2]? = some (.cells (vrow 2 (spAt x y)) 48) ∧ W.heap[b0]? = some (.cells (vrow 266 r.at) 36) ∧ W.heap[b1]? = some (.cells (vrow 5 q.at) 49)) → wpAnyH Tryd.prog .any O QQ SS 13 #[true, false, true, false, true, false, true, false, false, false, false, false, false, false, false, false, false] { tmps := #[.agg (vrow 266 s.at), .agg (vrow 5 b.at), .agg (vrow 2 (spAt x y)), .int .i64 k, .pointer (some ⟨w.heap.size, 0, none⟩), .pointer (some ⟨w.heap.size + 1, 0, none⟩), .pointer (some ⟨w.heap.size + 2, 0, none⟩), undef, .bool false, .pointer (some ⟨b0, 0, none⟩), .pointer (some ⟨b1, 0, none⟩), .int .i64 c, undef, undef, undef, .tuple #[.agg (vrow 266 r.at), .agg (vrow 5 q.at), .int .i64 c], .agg (vrow 266 s.at), .agg (vrow 266 s.at), .agg (vrow 5 b.at), .agg (vrow 5 b.at), .agg (vrow 2 (spAt x y)), .agg (vrow 2 (spAt x y)), .int .i64 k, .tuple #[.agg (vrow 266 r.at), .agg (vrow 5 q.at), .int .i64 c], .agg (vrow 266 r.at), .agg (vrow 5 q.at), .int .i64 c, undef, .agg (vrow 266 s.at), undef, .agg (vrow 5 b.at), undef, .agg (vrow 2 (spAt x y)), undef, .int .i64 k, undef, undef, undef, undef, undef, undef, undef, undef, undef, undef, undef, undef, undef, undef, undef, undef, undef, undef, undef], defers := [] } W := by
      intro W hH
      subst hO hSS hQQ
      refine wpAnyH_ready (rs := [1, 12, 13]) (by kernel_rfl) (by simp) (AllReadyH.cons rfl (fun K hK => ?_) (AllReadyH.cons rfl (fun K hK => ?_) (AllReadyH.cons rfl (fun K hK => ?_) AllReadyH.nil)))
      · rw [if_pos (by rfl)]
        go_simp
        go_at_call 15
        refine (HT0.out _).mono ?_
        rintro o X ⟨rfl, hb⟩
        replace hH : Below w.heap.size w X ∧ X.heap[w.heap.size]? = some (.cells (vrow 266 s.at) 31) ∧ X.heap[w.heap.size + 1]? = some (.cells (vrow 5 b.at) 47) ∧ X.heap[w.heap.size + 2]? = some (.cells (vrow 2 (spAt x y)) 48) ∧ X.heap[b0]? = some (.cells (vrow 266 r.at) 36) ∧ X.heap[b1]? = some (.cells (vrow 5 q.at) 49) := ⟨hH.1.trans (hb.mono hH.1.size), row_next hb hH.2.1, row_next hb hH.2.2.1, row_next hb hH.2.2.2.1, row_next hb hH.2.2.2.2.1, row_next hb hH.2.2.2.2.2⟩
        clear hb
        refine hK.out _ _ hH (fun hH => ?_)
        clear hK K
        (try simp only [Act.put, List.setIfInBounds_toArray, List.set_cons_succ, List.set_cons_zero])
        refine wpAnyH_at 12 #[true, true, true, false, true, false, true, false, false, false, false, false, false, false, false, false, false] (by kernel_rfl) (by kernel_rfl) ?_
        exact M1_00 X  hH
      · rw [if_pos (by rfl)]
        go_simp
        try simp only [sp_vrow]
        have V := heap_at W (.cells (vrow 266 Sh.zero.at) 36) _ rfl
        have m0 := row_lt hH.2.1
        have m1 := row_lt hH.2.2.1
        have m2 := row_lt hH.2.2.2.1
        have m3 := row_lt hH.2.2.2.2.1
        have m4 := row_lt hH.2.2.2.2.2
        replace hH : Below w.heap.size w (W.alloc (.cells (vrow 266 Sh.zero.at) 36)) ∧ (W.alloc (.cells (vrow 266 Sh.zero.at) 36)).heap[w.heap.size]? = some (.cells (vrow 266 s.at) 31) ∧ (W.alloc (.cells (vrow 266 Sh.zero.at) 36)).heap[w.heap.size + 1]? = some (.cells (vrow 5 b.at) 47) ∧ (W.alloc (.cells (vrow 266 Sh.zero.at) 36)).heap[w.heap.size + 2]? = some (.cells (vrow 2 (spAt x y)) 48) ∧ (W.alloc (.cells (vrow 266 Sh.zero.at) 36)).heap[b0]? = some (.cells (vrow 266 r.at) 36) ∧ (W.alloc (.cells (vrow 266 Sh.zero.at) 36)).heap[b1]? = some (.cells (vrow 5 q.at) 49) := ⟨hH.1.alloc hH.1.size _, heap_past _ _ _ _ m0 hH.2.1, heap_past _ _ _ _ m1 hH.2.2.1, heap_past _ _ _ _ m2 hH.2.2.2.1, heap_past _ _ _ _ m3 hH.2.2.2.2.1, heap_past _ _ _ _ m4 hH.2.2.2.2.2⟩
        refine hK.out _ _ hH (fun hH => ?_)
        clear hK K
        (try simp only [Act.put, List.setIfInBounds_toArray, List.set_cons_succ, List.set_cons_zero])
        refine wpAnyH_at 12 #[true, false, true, false, true, false, true, false, false, false, false, false, true, false, false, false, false] (by kernel_rfl) (by kernel_rfl) ?_
        exact M0_10 (W.alloc (.cells (vrow 266 Sh.zero.at) 36)) W.heap.size hH V m0 m1 m2 m3 m4
      · rw [if_pos (by rfl)]
        go_simp
        try simp only [sp_vrow]
        have V := heap_at W (.cells (vrow 5 Br.zero.at) 49) _ rfl
        have m0 := row_lt hH.2.1
        have m1 := row_lt hH.2.2.1
        have m2 := row_lt hH.2.2.2.1
        have m3 := row_lt hH.2.2.2.2.1
        have m4 := row_lt hH.2.2.2.2.2
        replace hH : Below w.heap.size w (W.alloc (.cells (vrow 5 Br.zero.at) 49)) ∧ (W.alloc (.cells (vrow 5 Br.zero.at) 49)).heap[w.heap.size]? = some (.cells (vrow 266 s.at) 31) ∧ (W.alloc (.cells (vrow 5 Br.zero.at) 49)).heap[w.heap.size + 1]? = some (.cells (vrow 5 b.at) 47) ∧ (W.alloc (.cells (vrow 5 Br.zero.at) 49)).heap[w.heap.size + 2]? = some (.cells (vrow 2 (spAt x y)) 48) ∧ (W.alloc (.cells (vrow 5 Br.zero.at) 49)).heap[b0]? = some (.cells (vrow 266 r.at) 36) ∧ (W.alloc (.cells (vrow 5 Br.zero.at) 49)).heap[b1]? = some (.cells (vrow 5 q.at) 49) := ⟨hH.1.alloc hH.1.size _, heap_past _ _ _ _ m0 hH.2.1, heap_past _ _ _ _ m1 hH.2.2.1, heap_past _ _ _ _ m2 hH.2.2.2.1, heap_past _ _ _ _ m3 hH.2.2.2.2.1, heap_past _ _ _ _ m4 hH.2.2.2.2.2⟩
        refine hK.out _ _ hH (fun hH => ?_)
        clear hK K
        (try simp only [Act.put, List.setIfInBounds_toArray, List.set_cons_succ, List.set_cons_zero])
        refine wpAnyH_at 12 #[true, false, true, false, true, false, true, false, false, false, false, false, false, true, false, false, false] (by kernel_rfl) (by kernel_rfl) ?_
        exact M0_01 (W.alloc (.cells (vrow 5 Br.zero.at) 49)) W.heap.size hH V m0 m1 m2 m3 m4
    subst hO hSS hQQ
    refine wp_region_held_drew (S := fun W' => Below w.heap.size w W' ∧ W'.heap[w.heap.size]? = some (.cells (vrow 266 s.at) 31) ∧ W'.heap[w.heap.size + 1]? = some (.cells (vrow 5 b.at) 47) ∧ W'.heap[w.heap.size + 2]? = some (.cells (vrow 2 (spAt x y)) 48) ∧ W'.heap[b0]? = some (.cells (vrow 266 r.at) 36) ∧ W'.heap[b1]? = some (.cells (vrow 5 q.at) 49)) (by kernel_rfl) ⟨hB.out.drew, P0.out, P1.out, P2.out, U0.out, U1.out⟩ (fun hH => ?_)
    generalize World.drew _ = W at hH ⊢
    refine wpAnyH_take (i := 0) (v := (.agg (vrow 266 s.at))) rfl (by kernel_rfl) (by kernel_rfl) (by kernel_rfl) (fun _ _ _ h => by cases h.1) (yields_row (by rfl) 31 _ rfl (w.heap.size) rfl 266 s.at 31 _ Tryd.underlying31 rfl size_lsheet (fun _ h => h.2.1)) hH ?_
    (try simp only [Act.put, List.setIfInBounds_toArray, List.set_cons_succ, List.set_cons_zero])
    refine wpAnyH_take (i := 2) (v := (.agg (vrow 5 b.at))) rfl (by kernel_rfl) (by kernel_rfl) (by kernel_rfl) (fun _ _ _ h => by cases h.1) (yields_row (by rfl) 47 _ rfl (w.heap.size + 1) rfl 5 b.at 47 _ Tryd.underlying47 rfl size_lbr (fun _ h => h.2.2.1)) hH ?_
    (try simp only [Act.put, List.setIfInBounds_toArray, List.set_cons_succ, List.set_cons_zero])
    refine wpAnyH_take (i := 4) (v := (.agg (vrow 2 (spAt x y)))) rfl (by kernel_rfl) (by kernel_rfl) (by kernel_rfl) (fun _ _ _ h => by cases h.1) (yields_row (by rfl) 48 _ rfl (w.heap.size + 2) rfl 2 (spAt x y) 48 _ Tryd.underlying48 rfl size_lspot (fun _ h => h.2.2.2.1)) hH ?_
    (try simp only [Act.put, List.setIfInBounds_toArray, List.set_cons_succ, List.set_cons_zero])
    refine wpAnyH_take (i := 6) (v := (.int .i64 k)) rfl (by kernel_rfl) (by kernel_rfl) (by kernel_rfl) (fun _ _ _ h => by cases h.1) (.inl ⟨by rfl, fun w _ => by go_simp⟩) hH ?_
    (try simp only [Act.put, List.setIfInBounds_toArray, List.set_cons_succ, List.set_cons_zero])
    refine wpAnyH_at 13 #[true, false, true, false, true, false, true, false, false, false, false, false, false, false, false, false, false] (by kernel_rfl) (by kernel_rfl) ?_
    exact M0_00 W hH
  rintro e2 a2 W2 ⟨rfl, c0, c1, rfl, ⟨hB, P0, P1, P2, U0, U1⟩, V0, V1⟩
  replace hB := Go.Lib.hid hB; replace P0 := Go.Lib.hid P0; replace P1 := Go.Lib.hid P1; replace P2 := Go.Lib.hid P2; replace U0 := Go.Lib.hid U0; replace U1 := Go.Lib.hid U1; replace V0 := Go.Lib.hid V0; replace V1 := Go.Lib.hid V1
  go_wp2_with (first
    | go_skip
    | ((with_reducible refine wlAt 39 rfl ?_); refine wpList_loadall rfl 36 (.tmp 12) rfl _ rfl 266 r.at 36 _ Tryd.underlying36 rfl size_sheet V0.out ?_)
    | ((with_reducible refine wlAt 40 rfl ?_); refine wpList_loadall rfl 36 (.tmp 9) rfl _ rfl 266 r.at 36 _ Tryd.underlying36 rfl size_sheet U0.out ?_)
    | ((with_reducible refine wlAt 44 rfl ?_); refine wpList_ldm 49 _ rfl (by first | exact want_n rfl | exact want_g _ _ _ rfl rfl rfl) c1 0 rfl 5 5 q.at _ rw_br size_br V1.out (by omega) ?_; simp only [Nat.zero_add])
    | ((with_reducible refine wlAt 45 rfl ?_); refine wpList_ldm 49 _ rfl (by first | exact want_n rfl | exact want_g _ _ _ rfl rfl rfl) b1 0 rfl 5 5 q.at _ rw_br size_br U1.out (by omega) ?_; simp only [Nat.zero_add])
    | (go_at_call 20; (first | (with_reducible refine (eqSheet_any r _).mono ?_)); rintro o w3 ⟨rfl, hb⟩; (try (replace U0 := Go.Lib.hid (row_next hb U0.out))); (try (replace U1 := Go.Lib.hid (row_next hb U1.out))); (try (replace V0 := Go.Lib.hid (row_next hb V0.out))); (try (replace V1 := Go.Lib.hid (row_next hb V1.out))); replace hB := Go.Lib.hid (below_next hB.out hb); clear hb)
    | (go_at_call 26; (first | (with_reducible refine (eqBrush_any q _).mono ?_)); rintro o w3 ⟨rfl, hb⟩; (try (replace U0 := Go.Lib.hid (row_next hb U0.out))); (try (replace U1 := Go.Lib.hid (row_next hb U1.out))); (try (replace V0 := Go.Lib.hid (row_next hb V0.out))); (try (replace V1 := Go.Lib.hid (row_next hb V1.out))); replace hB := Go.Lib.hid (below_next hB.out hb); clear hb))
  go_ret
  exact ⟨rfl, hB.out⟩
end Go.Proofs.YtfgcpiipndhllaaDoor
