import Derived.Deep.RegionHeld3
import Derived.Test.YthkkbkpfomhdeaaLat
import Derived.Test.YthkkbkpfomhdeaaYield
import Derived.Test.YthkkbkpfomhdeaaBrush
import Derived.Test.YthkkbkpfomhdeaaCells
namespace Go.Proofs.Ythkkbkpfomhdeaa
open Go.RowKit
set_option maxRecDepth 100000
set_option linter.unusedVariables false
set_option linter.unusedSimpArgs false
theorem rw_br : (Try.prog.underlying 27).map (·.isRow) = some true := by kernel_rfl
set_option maxHeartbeats 4000000 in
theorem mix_walk (a : Br) (b : Br) (r : Br) (q : Br) (c : Int) (w : World)
    (hS : ∀ w, Calls Try.prog 6 #[.agg (vrow 5 a.at), .agg (vrow 5 b.at)] w fun e w' => e = .returned (.tuple #[.agg (vrow 5 r.at), .agg (vrow 5 q.at), .int .i64 c]) ∧ Below w.heap.size w w')
    (hI : ∀ w, Calls Try.prog 8 #[.agg (vrow 5 a.at), .agg (vrow 5 b.at)] w fun e w' => e = .returned (.tuple #[.agg (vrow 5 r.at), .agg (vrow 5 q.at), .int .i64 c]) ∧ Below w.heap.size w w') : Calls Try.prog 3 #[.agg (vrow 5 a.at), .agg (vrow 5 b.at)] w fun o w' => o = .returned (.bool true) ∧ Below w.heap.size w w' := by
  have zz_brush := zero_br
  have HT0 := Go.Lib.hid (fun w => toBrush_any a w)
  have HT1 := Go.Lib.hid (fun w => toBrush_any b w)
  have HS := Go.Lib.hid hS; have HI := Go.Lib.hid hI
  clear hS hI
  have hB : Hid (Below w.heap.size w ((w.alloc (.cells (vrow 5 a.at) 26)).alloc (.cells (vrow 5 b.at) 26))) := (((Below.refl w.heap.size w).alloc (by simp <;> omega) _).alloc (by simp <;> omega) _)
  have P0 : Hid (((w.alloc (.cells (vrow 5 a.at) 26)).alloc (.cells (vrow 5 b.at) 26)).heap[w.heap.size]? = some (.cells (vrow 5 a.at) 26)) := heap_past _ _ _ _ (by first | omega | (simp <;> omega)) (heap_at _ _ _ (by simp))
  have P1 : Hid (((w.alloc (.cells (vrow 5 a.at) 26)).alloc (.cells (vrow 5 b.at) 26)).heap[w.heap.size + 1]? = some (.cells (vrow 5 b.at) 26)) := heap_at _ _ _ (by simp)
  go_enter Try.func3, Try.ntmps3
  go_wp2
  refine Code.wp_mono (Q := fun e a' W' => e = .normal ∧ ∃ b0 b1, a' = { tmps := #[.agg (vrow 5 a.at), .agg (vrow 5 b.at), .pointer (some ⟨w.heap.size, 0, none⟩), .pointer (some ⟨w.heap.size + 1, 0, none⟩), .bool false, .pointer (some ⟨b0, 0, none⟩), .pointer (some ⟨b1, 0, none⟩), .int .i64 c, undef, undef, undef, .tuple #[.agg (vrow 5 r.at), .agg (vrow 5 q.at), .int .i64 c], .agg (vrow 5 a.at), .agg (vrow 5 a.at), .agg (vrow 5 b.at), .agg (vrow 5 b.at), .tuple #[.agg (vrow 5 r.at), .agg (vrow 5 q.at), .int .i64 c], .agg (vrow 5 r.at), .agg (vrow 5 q.at), .int .i64 c, undef, undef, undef, undef, undef, undef, undef, undef, undef, undef, undef, undef, undef, undef, undef, undef, undef, undef, undef, undef, undef, undef, undef, undef], defers := [] } ∧ (Below w.heap.size w W' ∧ W'.heap[w.heap.size]? = some (.cells (vrow 5 a.at) 26) ∧ W'.heap[w.heap.size + 1]? = some (.cells (vrow 5 b.at) 26)) ∧ W'.heap[b0]? = some (.cells (vrow 5 r.at) 27) ∧ W'.heap[b1]? = some (.cells (vrow 5 q.at) 27)) ?_ ?_
  rotate_left
  · refine region_gen (fun O hO => ?_)
    obtain ⟨SS, hSS⟩ : ∃ zS : World → Prop, zS = (fun W' => Below w.heap.size w W' ∧ W'.heap[w.heap.size]? = some (.cells (vrow 5 a.at) 26) ∧ W'.heap[w.heap.size + 1]? = some (.cells (vrow 5 b.at) 26)) := ⟨_, rfl⟩
    obtain ⟨QQ, hQQ⟩ : ∃ zQ : Exit → Act → World → Prop, zQ = (fun e a' W' => e = .normal ∧ ∃ b0 b1, a' = { tmps := #[.agg (vrow 5 a.at), .agg (vrow 5 b.at), .pointer (some ⟨w.heap.size, 0, none⟩), .pointer (some ⟨w.heap.size + 1, 0, none⟩), .bool false, .pointer (some ⟨b0, 0, none⟩), .pointer (some ⟨b1, 0, none⟩), .int .i64 c, undef, undef, undef, .tuple #[.agg (vrow 5 r.at), .agg (vrow 5 q.at), .int .i64 c], .agg (vrow 5 a.at), .agg (vrow 5 a.at), .agg (vrow 5 b.at), .agg (vrow 5 b.at), .tuple #[.agg (vrow 5 r.at), .agg (vrow 5 q.at), .int .i64 c], .agg (vrow 5 r.at), .agg (vrow 5 q.at), .int .i64 c, undef, undef, undef, undef, undef, undef, undef, undef, undef, undef, undef, undef, undef, undef, undef, undef, undef, undef, undef, undef, undef, undef, undef, undef], defers := [] } ∧ (Below w.heap.size w W' ∧ W'.heap[w.heap.size]? = some (.cells (vrow 5 a.at) 26) ∧ W'.heap[w.heap.size + 1]? = some (.cells (vrow 5 b.at) 26)) ∧ W'.heap[b0]? = some (.cells (vrow 5 r.at) 27) ∧ W'.heap[b1]? = some (.cells (vrow 5 q.at) 27)) := ⟨_, rfl⟩
    rw [← hQQ]
    have N3_11 : ∀ (W : World) (b0 : Nat) (b1 : Nat), (Below w.heap.size w W ∧ W.heap[w.heap.size]? = some (.cells (vrow 5 a.at) 26) ∧ W.heap[w.heap.size + 1]? = some (.cells (vrow 5 b.at) 26)) → W.heap[b0]? = some (.cells (vrow 5 Br.zero.at) 27) → w.heap.size < b0 → w.heap.size + 1 < b0 → W.heap[b1]? = some (.cells (vrow 5 Br.zero.at) 27) → w.heap.size < b1 → w.heap.size + 1 < b1 → b0 ≠ b1 → wpAnyH Try.prog .any O QQ SS 3 #[true, true, true, true, true, true, true, true, true, true, true, false, false, false] { tmps := #[.agg (vrow 5 a.at), .agg (vrow 5 b.at), .pointer (some ⟨w.heap.size, 0, none⟩), .pointer (some ⟨w.heap.size + 1, 0, none⟩), .bool false, .pointer (some ⟨b0, 0, none⟩), .pointer (some ⟨b1, 0, none⟩), undef, undef, undef, undef, .tuple #[.agg (vrow 5 r.at), .agg (vrow 5 q.at), .int .i64 c], .agg (vrow 5 a.at), .agg (vrow 5 a.at), .agg (vrow 5 b.at), .agg (vrow 5 b.at), .tuple #[.agg (vrow 5 r.at), .agg (vrow 5 q.at), .int .i64 c], .agg (vrow 5 r.at), .agg (vrow 5 q.at), .int .i64 c, undef, undef, undef, undef, undef, undef, undef, undef, undef, undef, undef, undef, undef, undef, undef, undef, undef, undef, undef, undef, undef, undef, undef, undef], defers := [] } W := by
      intro W b0 b1 hH V0 n0_0 n0_1 V1 n1_0 n1_1 d0_1
      subst hO hSS hQQ
      refine wpAnyH_ready (rs := [11]) (by kernel_rfl) (by simp) (AllReadyH.cons rfl (fun K hK => ?_) AllReadyH.nil)
      rw [if_pos (by rfl)]
      unfold Oper.wp
      rw [run_storemid 27 (.tmp 5) (.tmp 17) rfl b0 0 rfl 5 5 Br.zero.at r.at rfl 27 size_br V0 (by omega) (fun i _ => Br.one _ i), vrow_over_all, Oper.upon_skip]
      replace V0 := row_set V0 (vrow 5 r.at)
      replace V1 := row_set' (show b1 ≠ b0 by omega) V1 (vrow 5 r.at)
      have hH2 : Below w.heap.size w (W.setRow b0 (vrow 5 r.at)) ∧ (W.setRow b0 (vrow 5 r.at)).heap[w.heap.size]? = some (.cells (vrow 5 a.at) 26) ∧ (W.setRow b0 (vrow 5 r.at)).heap[w.heap.size + 1]? = some (.cells (vrow 5 b.at) 26) := ⟨Below_setRow hH.1 (by omega) _, row_set' (by omega) hH.2.1 _, row_set' (by omega) hH.2.2 _⟩
      refine hK.out _ _ hH2 (fun hH => ?_)
      clear hK K hH2
      (try simp only [Act.put, List.setIfInBounds_toArray, List.set_cons_succ, List.set_cons_zero])
      generalize (W.setRow b0 (vrow 5 r.at)) = Y0 at hH V0 V1 ⊢
      refine wpAnyH_ready (rs := [12]) (by kernel_rfl) (by simp) (AllReadyH.cons rfl (fun K hK => ?_) AllReadyH.nil)
      rw [if_pos (by rfl)]
      unfold Oper.wp
      rw [run_storemid 27 (.tmp 6) (.tmp 18) rfl b1 0 rfl 5 5 Br.zero.at q.at rfl 27 size_br V1 (by omega) (fun i _ => Br.one _ i), vrow_over_all, Oper.upon_skip]
      replace V0 := row_set' (show b0 ≠ b1 by omega) V0 (vrow 5 q.at)
      replace V1 := row_set V1 (vrow 5 q.at)
      have hH2 : Below w.heap.size w (Y0.setRow b1 (vrow 5 q.at)) ∧ (Y0.setRow b1 (vrow 5 q.at)).heap[w.heap.size]? = some (.cells (vrow 5 a.at) 26) ∧ (Y0.setRow b1 (vrow 5 q.at)).heap[w.heap.size + 1]? = some (.cells (vrow 5 b.at) 26) := ⟨Below_setRow hH.1 (by omega) _, row_set' (by omega) hH.2.1 _, row_set' (by omega) hH.2.2 _⟩
      refine hK.out _ _ hH2 (fun hH => ?_)
      clear hK K hH2
      (try simp only [Act.put, List.setIfInBounds_toArray, List.set_cons_succ, List.set_cons_zero])
      generalize (Y0.setRow b1 (vrow 5 q.at)) = Y1 at hH V0 V1 ⊢
      refine wpAnyH_take (i := 13) (v := (.int .i64 c)) rfl (by kernel_rfl) (by kernel_rfl) (by kernel_rfl) (fun _ _ _ h => by cases h.1) (.inl ⟨by rfl, fun w _ => by go_simp⟩) hH ?_
      (try simp only [Act.put, List.setIfInBounds_toArray, List.set_cons_succ, List.set_cons_zero])
      refine wpAnyH_done (by kernel_rfl) ?_ _
      exact ⟨rfl, b0, b1, rfl, hH, V0, V1⟩
    have N3_10 : ∀ (W : World) (b0 : Nat), (Below w.heap.size w W ∧ W.heap[w.heap.size]? = some (.cells (vrow 5 a.at) 26) ∧ W.heap[w.heap.size + 1]? = some (.cells (vrow 5 b.at) 26)) → W.heap[b0]? = some (.cells (vrow 5 Br.zero.at) 27) → w.heap.size < b0 → w.heap.size + 1 < b0 → wpAnyH Try.prog .any O QQ SS 4 #[true, true, true, true, true, true, true, true, true, true, false, false, false, false] { tmps := #[.agg (vrow 5 a.at), .agg (vrow 5 b.at), .pointer (some ⟨w.heap.size, 0, none⟩), .pointer (some ⟨w.heap.size + 1, 0, none⟩), .bool false, .pointer (some ⟨b0, 0, none⟩), undef, undef, undef, undef, undef, .tuple #[.agg (vrow 5 r.at), .agg (vrow 5 q.at), .int .i64 c], .agg (vrow 5 a.at), .agg (vrow 5 a.at), .agg (vrow 5 b.at), .agg (vrow 5 b.at), .tuple #[.agg (vrow 5 r.at), .agg (vrow 5 q.at), .int .i64 c], .agg (vrow 5 r.at), .agg (vrow 5 q.at), .int .i64 c, undef, undef, undef, undef, undef, undef, undef, undef, undef, undef, undef, undef, undef, undef, undef, undef, undef, undef, undef, undef, undef, undef, undef, undef], defers := [] } W := by
      intro W b0 hH V0 n0_0 n0_1
      subst hO hSS hQQ
      refine wpAnyH_ready (rs := [10]) (by kernel_rfl) (by simp) (AllReadyH.cons rfl (fun K hK => ?_) AllReadyH.nil)
      · rw [if_pos (by rfl)]
        go_simp
        try simp only [sp_vrow]
        have V := heap_at W (.cells (vrow 5 Br.zero.at) 27) _ rfl
        have m0 := row_lt hH.2.1
        have m1 := row_lt hH.2.2
        have mm0 := row_lt V0
        replace V0 := heap_past _ (.cells (vrow 5 Br.zero.at) 27) _ _ mm0 V0
        replace hH : Below w.heap.size w (W.alloc (.cells (vrow 5 Br.zero.at) 27)) ∧ (W.alloc (.cells (vrow 5 Br.zero.at) 27)).heap[w.heap.size]? = some (.cells (vrow 5 a.at) 26) ∧ (W.alloc (.cells (vrow 5 Br.zero.at) 27)).heap[w.heap.size + 1]? = some (.cells (vrow 5 b.at) 26) := ⟨hH.1.alloc hH.1.size _, heap_past _ _ _ _ m0 hH.2.1, heap_past _ _ _ _ m1 hH.2.2⟩
        refine hK.out _ _ hH (fun hH => ?_)
        clear hK K
        (try simp only [Act.put, List.setIfInBounds_toArray, List.set_cons_succ, List.set_cons_zero])
        refine wpAnyH_at 3 #[true, true, true, true, true, true, true, true, true, true, true, false, false, false] (by kernel_rfl) (by kernel_rfl) ?_
        exact N3_11 (W.alloc (.cells (vrow 5 Br.zero.at) 27)) b0 W.heap.size hH V0 n0_0 n0_1 V m0 m1 (by omega)
    have N3_01 : ∀ (W : World) (b1 : Nat), (Below w.heap.size w W ∧ W.heap[w.heap.size]? = some (.cells (vrow 5 a.at) 26) ∧ W.heap[w.heap.size + 1]? = some (.cells (vrow 5 b.at) 26)) → W.heap[b1]? = some (.cells (vrow 5 Br.zero.at) 27) → w.heap.size < b1 → w.heap.size + 1 < b1 → wpAnyH Try.prog .any O QQ SS 4 #[true, true, true, true, true, true, true, true, true, false, true, false, false, false] { tmps := #[.agg (vrow 5 a.at), .agg (vrow 5 b.at), .pointer (some ⟨w.heap.size, 0, none⟩), .pointer (some ⟨w.heap.size + 1, 0, none⟩), .bool false, undef, .pointer (some ⟨b1, 0, none⟩), undef, undef, undef, undef, .tuple #[.agg (vrow 5 r.at), .agg (vrow 5 q.at), .int .i64 c], .agg (vrow 5 a.at), .agg (vrow 5 a.at), .agg (vrow 5 b.at), .agg (vrow 5 b.at), .tuple #[.agg (vrow 5 r.at), .agg (vrow 5 q.at), .int .i64 c], .agg (vrow 5 r.at), .agg (vrow 5 q.at), .int .i64 c, undef, undef, undef, undef, undef, undef, undef, undef, undef, undef, undef, undef, undef, undef, undef, undef, undef, undef, undef, undef, undef, undef, undef, undef], defers := [] } W := by
      intro W b1 hH V1 n1_0 n1_1
      subst hO hSS hQQ
      refine wpAnyH_ready (rs := [9]) (by kernel_rfl) (by simp) (AllReadyH.cons rfl (fun K hK => ?_) AllReadyH.nil)
      · rw [if_pos (by rfl)]
        go_simp
        try simp only [sp_vrow]
        have V := heap_at W (.cells (vrow 5 Br.zero.at) 27) _ rfl
        have m0 := row_lt hH.2.1
        have m1 := row_lt hH.2.2
        have mm1 := row_lt V1
        replace V1 := heap_past _ (.cells (vrow 5 Br.zero.at) 27) _ _ mm1 V1
        replace hH : Below w.heap.size w (W.alloc (.cells (vrow 5 Br.zero.at) 27)) ∧ (W.alloc (.cells (vrow 5 Br.zero.at) 27)).heap[w.heap.size]? = some (.cells (vrow 5 a.at) 26) ∧ (W.alloc (.cells (vrow 5 Br.zero.at) 27)).heap[w.heap.size + 1]? = some (.cells (vrow 5 b.at) 26) := ⟨hH.1.alloc hH.1.size _, heap_past _ _ _ _ m0 hH.2.1, heap_past _ _ _ _ m1 hH.2.2⟩
        refine hK.out _ _ hH (fun hH => ?_)
        clear hK K
        (try simp only [Act.put, List.setIfInBounds_toArray, List.set_cons_succ, List.set_cons_zero])
        refine wpAnyH_at 3 #[true, true, true, true, true, true, true, true, true, true, true, false, false, false] (by kernel_rfl) (by kernel_rfl) ?_
        exact N3_11 (W.alloc (.cells (vrow 5 Br.zero.at) 27)) W.heap.size b1 hH V m0 m1 V1 n1_0 n1_1 (by omega)
    have N3_00 : ∀ (W : World), (Below w.heap.size w W ∧ W.heap[w.heap.size]? = some (.cells (vrow 5 a.at) 26) ∧ W.heap[w.heap.size + 1]? = some (.cells (vrow 5 b.at) 26)) → wpAnyH Try.prog .any O QQ SS 5 #[true, true, true, true, true, true, true, true, true, false, false, false, false, false] { tmps := #[.agg (vrow 5 a.at), .agg (vrow 5 b.at), .pointer (some ⟨w.heap.size, 0, none⟩), .pointer (some ⟨w.heap.size + 1, 0, none⟩), .bool false, undef, undef, undef, undef, undef, undef, .tuple #[.agg (vrow 5 r.at), .agg (vrow 5 q.at), .int .i64 c], .agg (vrow 5 a.at), .agg (vrow 5 a.at), .agg (vrow 5 b.at), .agg (vrow 5 b.at), .tuple #[.agg (vrow 5 r.at), .agg (vrow 5 q.at), .int .i64 c], .agg (vrow 5 r.at), .agg (vrow 5 q.at), .int .i64 c, undef, undef, undef, undef, undef, undef, undef, undef, undef, undef, undef, undef, undef, undef, undef, undef, undef, undef, undef, undef, undef, undef, undef, undef], defers := [] } W := by
      intro W hH
      subst hO hSS hQQ
      refine wpAnyH_ready (rs := [9, 10]) (by kernel_rfl) (by simp) (AllReadyH.cons rfl (fun K hK => ?_) (AllReadyH.cons rfl (fun K hK => ?_) AllReadyH.nil))
      · rw [if_pos (by rfl)]
        go_simp
        try simp only [sp_vrow]
        have V := heap_at W (.cells (vrow 5 Br.zero.at) 27) _ rfl
        have m0 := row_lt hH.2.1
        have m1 := row_lt hH.2.2
        replace hH : Below w.heap.size w (W.alloc (.cells (vrow 5 Br.zero.at) 27)) ∧ (W.alloc (.cells (vrow 5 Br.zero.at) 27)).heap[w.heap.size]? = some (.cells (vrow 5 a.at) 26) ∧ (W.alloc (.cells (vrow 5 Br.zero.at) 27)).heap[w.heap.size + 1]? = some (.cells (vrow 5 b.at) 26) := ⟨hH.1.alloc hH.1.size _, heap_past _ _ _ _ m0 hH.2.1, heap_past _ _ _ _ m1 hH.2.2⟩
        refine hK.out _ _ hH (fun hH => ?_)
        clear hK K
        (try simp only [Act.put, List.setIfInBounds_toArray, List.set_cons_succ, List.set_cons_zero])
        refine wpAnyH_at 4 #[true, true, true, true, true, true, true, true, true, true, false, false, false, false] (by kernel_rfl) (by kernel_rfl) ?_
        exact N3_10 (W.alloc (.cells (vrow 5 Br.zero.at) 27)) W.heap.size hH V m0 m1
      · rw [if_pos (by rfl)]
        go_simp
        try simp only [sp_vrow]
        have V := heap_at W (.cells (vrow 5 Br.zero.at) 27) _ rfl
        have m0 := row_lt hH.2.1
        have m1 := row_lt hH.2.2
        replace hH : Below w.heap.size w (W.alloc (.cells (vrow 5 Br.zero.at) 27)) ∧ (W.alloc (.cells (vrow 5 Br.zero.at) 27)).heap[w.heap.size]? = some (.cells (vrow 5 a.at) 26) ∧ (W.alloc (.cells (vrow 5 Br.zero.at) 27)).heap[w.heap.size + 1]? = some (.cells (vrow 5 b.at) 26) := ⟨hH.1.alloc hH.1.size _, heap_past _ _ _ _ m0 hH.2.1, heap_past _ _ _ _ m1 hH.2.2⟩
        refine hK.out _ _ hH (fun hH => ?_)
        clear hK K
        (try simp only [Act.put, List.setIfInBounds_toArray, List.set_cons_succ, List.set_cons_zero])
        refine wpAnyH_at 4 #[true, true, true, true, true, true, true, true, true, false, true, false, false, false] (by kernel_rfl) (by kernel_rfl) ?_
        exact N3_01 (W.alloc (.cells (vrow 5 Br.zero.at) 27)) W.heap.size hH V m0 m1
    have N2_11 : ∀ (W : World) (b0 : Nat) (b1 : Nat), (Below w.heap.size w W ∧ W.heap[w.heap.size]? = some (.cells (vrow 5 a.at) 26) ∧ W.heap[w.heap.size + 1]? = some (.cells (vrow 5 b.at) 26)) → W.heap[b0]? = some (.cells (vrow 5 Br.zero.at) 27) → w.heap.size < b0 → w.heap.size + 1 < b0 → W.heap[b1]? = some (.cells (vrow 5 Br.zero.at) 27) → w.heap.size < b1 → w.heap.size + 1 < b1 → b0 ≠ b1 → wpAnyH Try.prog .any O QQ SS 8 #[true, true, true, true, false, false, false, false, false, true, true, false, false, false] { tmps := #[.agg (vrow 5 a.at), .agg (vrow 5 b.at), .pointer (some ⟨w.heap.size, 0, none⟩), .pointer (some ⟨w.heap.size + 1, 0, none⟩), .bool false, .pointer (some ⟨b0, 0, none⟩), .pointer (some ⟨b1, 0, none⟩), undef, undef, undef, undef, undef, .agg (vrow 5 a.at), .agg (vrow 5 a.at), .agg (vrow 5 b.at), .agg (vrow 5 b.at), undef, undef, undef, undef, undef, undef, undef, undef, undef, undef, undef, undef, undef, undef, undef, undef, undef, undef, undef, undef, undef, undef, undef, undef, undef, undef, undef, undef], defers := [] } W := by
      intro W b0 b1 hH V0 n0_0 n0_1 V1 n1_0 n1_1 d0_1
      subst hO hSS hQQ
      refine wpAnyH_ready (rs := [4]) (by kernel_rfl) (by simp) (AllReadyH.cons rfl (fun K hK => ?_) AllReadyH.nil)
      · rw [if_pos (by rfl)]
        go_simp
        go_at_call 6
        refine (HS.out _).mono ?_
        rintro o X ⟨rfl, hb⟩
        replace hH : Below w.heap.size w X ∧ X.heap[w.heap.size]? = some (.cells (vrow 5 a.at) 26) ∧ X.heap[w.heap.size + 1]? = some (.cells (vrow 5 b.at) 26) := ⟨hH.1.trans (hb.mono hH.1.size), row_next hb hH.2.1, row_next hb hH.2.2⟩
        replace V0 := row_next hb V0
        replace V1 := row_next hb V1
        clear hb
        refine hK.out _ _ hH (fun hH => ?_)
        clear hK K
        (try simp only [Act.put, List.setIfInBounds_toArray, List.set_cons_succ, List.set_cons_zero])
        refine wpAnyH_take (i := 5) (v := (.tuple #[.agg (vrow 5 r.at), .agg (vrow 5 q.at), .int .i64 c])) rfl (by kernel_rfl) (by kernel_rfl) (by kernel_rfl) (fun _ _ _ h => by cases h.1) (.inl ⟨by rfl, fun w _ => by go_simp⟩) hH ?_
        (try simp only [Act.put, List.setIfInBounds_toArray, List.set_cons_succ, List.set_cons_zero])
        refine wpAnyH_take (i := 6) (v := (.agg (vrow 5 r.at))) rfl (by kernel_rfl) (by kernel_rfl) (by kernel_rfl) (fun _ _ _ h => by cases h.1) (.inl ⟨by rfl, fun w _ => by go_simp⟩) hH ?_
        (try simp only [Act.put, List.setIfInBounds_toArray, List.set_cons_succ, List.set_cons_zero])
        refine wpAnyH_take (i := 7) (v := (.agg (vrow 5 q.at))) rfl (by kernel_rfl) (by kernel_rfl) (by kernel_rfl) (fun _ _ _ h => by cases h.1) (.inl ⟨by rfl, fun w _ => by go_simp⟩) hH ?_
        (try simp only [Act.put, List.setIfInBounds_toArray, List.set_cons_succ, List.set_cons_zero])
        refine wpAnyH_take (i := 8) (v := (.int .i64 c)) rfl (by kernel_rfl) (by kernel_rfl) (by kernel_rfl) (fun _ _ _ h => by cases h.1) (.inl ⟨by rfl, fun w _ => by go_simp⟩) hH ?_
        (try simp only [Act.put, List.setIfInBounds_toArray, List.set_cons_succ, List.set_cons_zero])
        refine wpAnyH_at 3 #[true, true, true, true, true, true, true, true, true, true, true, false, false, false] (by kernel_rfl) (by kernel_rfl) ?_
        exact N3_11 X b0 b1 hH V0 n0_0 n0_1 V1 n1_0 n1_1 d0_1
    have N2_10 : ∀ (W : World) (b0 : Nat), (Below w.heap.size w W ∧ W.heap[w.heap.size]? = some (.cells (vrow 5 a.at) 26) ∧ W.heap[w.heap.size + 1]? = some (.cells (vrow 5 b.at) 26)) → W.heap[b0]? = some (.cells (vrow 5 Br.zero.at) 27) → w.heap.size < b0 → w.heap.size + 1 < b0 → wpAnyH Try.prog .any O QQ SS 9 #[true, true, true, true, false, false, false, false, false, true, false, false, false, false] { tmps := #[.agg (vrow 5 a.at), .agg (vrow 5 b.at), .pointer (some ⟨w.heap.size, 0, none⟩), .pointer (some ⟨w.heap.size + 1, 0, none⟩), .bool false, .pointer (some ⟨b0, 0, none⟩), undef, undef, undef, undef, undef, undef, .agg (vrow 5 a.at), .agg (vrow 5 a.at), .agg (vrow 5 b.at), .agg (vrow 5 b.at), undef, undef, undef, undef, undef, undef, undef, undef, undef, undef, undef, undef, undef, undef, undef, undef, undef, undef, undef, undef, undef, undef, undef, undef, undef, undef, undef, undef], defers := [] } W := by
      intro W b0 hH V0 n0_0 n0_1
      subst hO hSS hQQ
      refine wpAnyH_ready (rs := [4, 10]) (by kernel_rfl) (by simp) (AllReadyH.cons rfl (fun K hK => ?_) (AllReadyH.cons rfl (fun K hK => ?_) AllReadyH.nil))
      · rw [if_pos (by rfl)]
        go_simp
        go_at_call 6
        refine (HS.out _).mono ?_
        rintro o X ⟨rfl, hb⟩
        replace hH : Below w.heap.size w X ∧ X.heap[w.heap.size]? = some (.cells (vrow 5 a.at) 26) ∧ X.heap[w.heap.size + 1]? = some (.cells (vrow 5 b.at) 26) := ⟨hH.1.trans (hb.mono hH.1.size), row_next hb hH.2.1, row_next hb hH.2.2⟩
        replace V0 := row_next hb V0
        clear hb
        refine hK.out _ _ hH (fun hH => ?_)
        clear hK K
        (try simp only [Act.put, List.setIfInBounds_toArray, List.set_cons_succ, List.set_cons_zero])
        refine wpAnyH_take (i := 5) (v := (.tuple #[.agg (vrow 5 r.at), .agg (vrow 5 q.at), .int .i64 c])) rfl (by kernel_rfl) (by kernel_rfl) (by kernel_rfl) (fun _ _ _ h => by cases h.1) (.inl ⟨by rfl, fun w _ => by go_simp⟩) hH ?_
        (try simp only [Act.put, List.setIfInBounds_toArray, List.set_cons_succ, List.set_cons_zero])
        refine wpAnyH_take (i := 6) (v := (.agg (vrow 5 r.at))) rfl (by kernel_rfl) (by kernel_rfl) (by kernel_rfl) (fun _ _ _ h => by cases h.1) (.inl ⟨by rfl, fun w _ => by go_simp⟩) hH ?_
        (try simp only [Act.put, List.setIfInBounds_toArray, List.set_cons_succ, List.set_cons_zero])
        refine wpAnyH_take (i := 7) (v := (.agg (vrow 5 q.at))) rfl (by kernel_rfl) (by kernel_rfl) (by kernel_rfl) (fun _ _ _ h => by cases h.1) (.inl ⟨by rfl, fun w _ => by go_simp⟩) hH ?_
        (try simp only [Act.put, List.setIfInBounds_toArray, List.set_cons_succ, List.set_cons_zero])
        refine wpAnyH_take (i := 8) (v := (.int .i64 c)) rfl (by kernel_rfl) (by kernel_rfl) (by kernel_rfl) (fun _ _ _ h => by cases h.1) (.inl ⟨by rfl, fun w _ => by go_simp⟩) hH ?_
        (try simp only [Act.put, List.setIfInBounds_toArray, List.set_cons_succ, List.set_cons_zero])
        refine wpAnyH_at 4 #[true, true, true, true, true, true, true, true, true, true, false, false, false, false] (by kernel_rfl) (by kernel_rfl) ?_
        exact N3_10 X b0 hH V0 n0_0 n0_1
      · rw [if_pos (by rfl)]
        go_simp
        try simp only [sp_vrow]
        have V := heap_at W (.cells (vrow 5 Br.zero.at) 27) _ rfl
        have m0 := row_lt hH.2.1
        have m1 := row_lt hH.2.2
        have mm0 := row_lt V0
        replace V0 := heap_past _ (.cells (vrow 5 Br.zero.at) 27) _ _ mm0 V0
        replace hH : Below w.heap.size w (W.alloc (.cells (vrow 5 Br.zero.at) 27)) ∧ (W.alloc (.cells (vrow 5 Br.zero.at) 27)).heap[w.heap.size]? = some (.cells (vrow 5 a.at) 26) ∧ (W.alloc (.cells (vrow 5 Br.zero.at) 27)).heap[w.heap.size + 1]? = some (.cells (vrow 5 b.at) 26) := ⟨hH.1.alloc hH.1.size _, heap_past _ _ _ _ m0 hH.2.1, heap_past _ _ _ _ m1 hH.2.2⟩
        refine hK.out _ _ hH (fun hH => ?_)
        clear hK K
        (try simp only [Act.put, List.setIfInBounds_toArray, List.set_cons_succ, List.set_cons_zero])
        refine wpAnyH_at 8 #[true, true, true, true, false, false, false, false, false, true, true, false, false, false] (by kernel_rfl) (by kernel_rfl) ?_
        exact N2_11 (W.alloc (.cells (vrow 5 Br.zero.at) 27)) b0 W.heap.size hH V0 n0_0 n0_1 V m0 m1 (by omega)
    have N2_01 : ∀ (W : World) (b1 : Nat), (Below w.heap.size w W ∧ W.heap[w.heap.size]? = some (.cells (vrow 5 a.at) 26) ∧ W.heap[w.heap.size + 1]? = some (.cells (vrow 5 b.at) 26)) → W.heap[b1]? = some (.cells (vrow 5 Br.zero.at) 27) → w.heap.size < b1 → w.heap.size + 1 < b1 → wpAnyH Try.prog .any O QQ SS 9 #[true, true, true, true, false, false, false, false, false, false, true, false, false, false] { tmps := #[.agg (vrow 5 a.at), .agg (vrow 5 b.at), .pointer (some ⟨w.heap.size, 0, none⟩), .pointer (some ⟨w.heap.size + 1, 0, none⟩), .bool false, undef, .pointer (some ⟨b1, 0, none⟩), undef, undef, undef, undef, undef, .agg (vrow 5 a.at), .agg (vrow 5 a.at), .agg (vrow 5 b.at), .agg (vrow 5 b.at), undef, undef, undef, undef, undef, undef, undef, undef, undef, undef, undef, undef, undef, undef, undef, undef, undef, undef, undef, undef, undef, undef, undef, undef, undef, undef, undef, undef], defers := [] } W := by
      intro W b1 hH V1 n1_0 n1_1
      subst hO hSS hQQ
      refine wpAnyH_ready (rs := [4, 9]) (by kernel_rfl) (by simp) (AllReadyH.cons rfl (fun K hK => ?_) (AllReadyH.cons rfl (fun K hK => ?_) AllReadyH.nil))
      · rw [if_pos (by rfl)]
        go_simp
        go_at_call 6
        refine (HS.out _).mono ?_
        rintro o X ⟨rfl, hb⟩
        replace hH : Below w.heap.size w X ∧ X.heap[w.heap.size]? = some (.cells (vrow 5 a.at) 26) ∧ X.heap[w.heap.size + 1]? = some (.cells (vrow 5 b.at) 26) := ⟨hH.1.trans (hb.mono hH.1.size), row_next hb hH.2.1, row_next hb hH.2.2⟩
        replace V1 := row_next hb V1
        clear hb
        refine hK.out _ _ hH (fun hH => ?_)
        clear hK K
        (try simp only [Act.put, List.setIfInBounds_toArray, List.set_cons_succ, List.set_cons_zero])
        refine wpAnyH_take (i := 5) (v := (.tuple #[.agg (vrow 5 r.at), .agg (vrow 5 q.at), .int .i64 c])) rfl (by kernel_rfl) (by kernel_rfl) (by kernel_rfl) (fun _ _ _ h => by cases h.1) (.inl ⟨by rfl, fun w _ => by go_simp⟩) hH ?_
        (try simp only [Act.put, List.setIfInBounds_toArray, List.set_cons_succ, List.set_cons_zero])
        refine wpAnyH_take (i := 6) (v := (.agg (vrow 5 r.at))) rfl (by kernel_rfl) (by kernel_rfl) (by kernel_rfl) (fun _ _ _ h => by cases h.1) (.inl ⟨by rfl, fun w _ => by go_simp⟩) hH ?_
        (try simp only [Act.put, List.setIfInBounds_toArray, List.set_cons_succ, List.set_cons_zero])
        refine wpAnyH_take (i := 7) (v := (.agg (vrow 5 q.at))) rfl (by kernel_rfl) (by kernel_rfl) (by kernel_rfl) (fun _ _ _ h => by cases h.1) (.inl ⟨by rfl, fun w _ => by go_simp⟩) hH ?_
        (try simp only [Act.put, List.setIfInBounds_toArray, List.set_cons_succ, List.set_cons_zero])
        refine wpAnyH_take (i := 8) (v := (.int .i64 c)) rfl (by kernel_rfl) (by kernel_rfl) (by kernel_rfl) (fun _ _ _ h => by cases h.1) (.inl ⟨by rfl, fun w _ => by go_simp⟩) hH ?_
        (try simp only [Act.put, List.setIfInBounds_toArray, List.set_cons_succ, List.set_cons_zero])
        refine wpAnyH_at 4 #[true, true, true, true, true, true, true, true, true, false, true, false, false, false] (by kernel_rfl) (by kernel_rfl) ?_
        exact N3_01 X b1 hH V1 n1_0 n1_1
      · rw [if_pos (by rfl)]
        go_simp
        try simp only [sp_vrow]
        have V := heap_at W (.cells (vrow 5 Br.zero.at) 27) _ rfl
        have m0 := row_lt hH.2.1
        have m1 := row_lt hH.2.2
        have mm1 := row_lt V1
        replace V1 := heap_past _ (.cells (vrow 5 Br.zero.at) 27) _ _ mm1 V1
        replace hH : Below w.heap.size w (W.alloc (.cells (vrow 5 Br.zero.at) 27)) ∧ (W.alloc (.cells (vrow 5 Br.zero.at) 27)).heap[w.heap.size]? = some (.cells (vrow 5 a.at) 26) ∧ (W.alloc (.cells (vrow 5 Br.zero.at) 27)).heap[w.heap.size + 1]? = some (.cells (vrow 5 b.at) 26) := ⟨hH.1.alloc hH.1.size _, heap_past _ _ _ _ m0 hH.2.1, heap_past _ _ _ _ m1 hH.2.2⟩
        refine hK.out _ _ hH (fun hH => ?_)
        clear hK K
        (try simp only [Act.put, List.setIfInBounds_toArray, List.set_cons_succ, List.set_cons_zero])
        refine wpAnyH_at 8 #[true, true, true, true, false, false, false, false, false, true, true, false, false, false] (by kernel_rfl) (by kernel_rfl) ?_
        exact N2_11 (W.alloc (.cells (vrow 5 Br.zero.at) 27)) W.heap.size b1 hH V m0 m1 V1 n1_0 n1_1 (by omega)
    have N2_00 : ∀ (W : World), (Below w.heap.size w W ∧ W.heap[w.heap.size]? = some (.cells (vrow 5 a.at) 26) ∧ W.heap[w.heap.size + 1]? = some (.cells (vrow 5 b.at) 26)) → wpAnyH Try.prog .any O QQ SS 10 #[true, true, true, true, false, false, false, false, false, false, false, false, false, false] { tmps := #[.agg (vrow 5 a.at), .agg (vrow 5 b.at), .pointer (some ⟨w.heap.size, 0, none⟩), .pointer (some ⟨w.heap.size + 1, 0, none⟩), .bool false, undef, undef, undef, undef, undef, undef, undef, .agg (vrow 5 a.at), .agg (vrow 5 a.at), .agg (vrow 5 b.at), .agg (vrow 5 b.at), undef, undef, undef, undef, undef, undef, undef, undef, undef, undef, undef, undef, undef, undef, undef, undef, undef, undef, undef, undef, undef, undef, undef, undef, undef, undef, undef, undef], defers := [] } W := by
      intro W hH
      subst hO hSS hQQ
      refine wpAnyH_ready (rs := [4, 9, 10]) (by kernel_rfl) (by simp) (AllReadyH.cons rfl (fun K hK => ?_) (AllReadyH.cons rfl (fun K hK => ?_) (AllReadyH.cons rfl (fun K hK => ?_) AllReadyH.nil)))
      · rw [if_pos (by rfl)]
        go_simp
        go_at_call 6
        refine (HS.out _).mono ?_
        rintro o X ⟨rfl, hb⟩
        replace hH : Below w.heap.size w X ∧ X.heap[w.heap.size]? = some (.cells (vrow 5 a.at) 26) ∧ X.heap[w.heap.size + 1]? = some (.cells (vrow 5 b.at) 26) := ⟨hH.1.trans (hb.mono hH.1.size), row_next hb hH.2.1, row_next hb hH.2.2⟩
        clear hb
        refine hK.out _ _ hH (fun hH => ?_)
        clear hK K
        (try simp only [Act.put, List.setIfInBounds_toArray, List.set_cons_succ, List.set_cons_zero])
        refine wpAnyH_take (i := 5) (v := (.tuple #[.agg (vrow 5 r.at), .agg (vrow 5 q.at), .int .i64 c])) rfl (by kernel_rfl) (by kernel_rfl) (by kernel_rfl) (fun _ _ _ h => by cases h.1) (.inl ⟨by rfl, fun w _ => by go_simp⟩) hH ?_
        (try simp only [Act.put, List.setIfInBounds_toArray, List.set_cons_succ, List.set_cons_zero])
        refine wpAnyH_take (i := 6) (v := (.agg (vrow 5 r.at))) rfl (by kernel_rfl) (by kernel_rfl) (by kernel_rfl) (fun _ _ _ h => by cases h.1) (.inl ⟨by rfl, fun w _ => by go_simp⟩) hH ?_
        (try simp only [Act.put, List.setIfInBounds_toArray, List.set_cons_succ, List.set_cons_zero])
        refine wpAnyH_take (i := 7) (v := (.agg (vrow 5 q.at))) rfl (by kernel_rfl) (by kernel_rfl) (by kernel_rfl) (fun _ _ _ h => by cases h.1) (.inl ⟨by rfl, fun w _ => by go_simp⟩) hH ?_
        (try simp only [Act.put, List.setIfInBounds_toArray, List.set_cons_succ, List.set_cons_zero])
        refine wpAnyH_take (i := 8) (v := (.int .i64 c)) rfl (by kernel_rfl) (by kernel_rfl) (by kernel_rfl) (fun _ _ _ h => by cases h.1) (.inl ⟨by rfl, fun w _ => by go_simp⟩) hH ?_
        (try simp only [Act.put, List.setIfInBounds_toArray, List.set_cons_succ, List.set_cons_zero])
        refine wpAnyH_at 5 #[true, true, true, true, true, true, true, true, true, false, false, false, false, false] (by kernel_rfl) (by kernel_rfl) ?_
        exact N3_00 X  hH
      · rw [if_pos (by rfl)]
        go_simp
        try simp only [sp_vrow]
        have V := heap_at W (.cells (vrow 5 Br.zero.at) 27) _ rfl
        have m0 := row_lt hH.2.1
        have m1 := row_lt hH.2.2
        replace hH : Below w.heap.size w (W.alloc (.cells (vrow 5 Br.zero.at) 27)) ∧ (W.alloc (.cells (vrow 5 Br.zero.at) 27)).heap[w.heap.size]? = some (.cells (vrow 5 a.at) 26) ∧ (W.alloc (.cells (vrow 5 Br.zero.at) 27)).heap[w.heap.size + 1]? = some (.cells (vrow 5 b.at) 26) := ⟨hH.1.alloc hH.1.size _, heap_past _ _ _ _ m0 hH.2.1, heap_past _ _ _ _ m1 hH.2.2⟩
        refine hK.out _ _ hH (fun hH => ?_)
        clear hK K
        (try simp only [Act.put, List.setIfInBounds_toArray, List.set_cons_succ, List.set_cons_zero])
        refine wpAnyH_at 9 #[true, true, true, true, false, false, false, false, false, true, false, false, false, false] (by kernel_rfl) (by kernel_rfl) ?_
        exact N2_10 (W.alloc (.cells (vrow 5 Br.zero.at) 27)) W.heap.size hH V m0 m1
      · rw [if_pos (by rfl)]
        go_simp
        try simp only [sp_vrow]
        have V := heap_at W (.cells (vrow 5 Br.zero.at) 27) _ rfl
        have m0 := row_lt hH.2.1
        have m1 := row_lt hH.2.2
        replace hH : Below w.heap.size w (W.alloc (.cells (vrow 5 Br.zero.at) 27)) ∧ (W.alloc (.cells (vrow 5 Br.zero.at) 27)).heap[w.heap.size]? = some (.cells (vrow 5 a.at) 26) ∧ (W.alloc (.cells (vrow 5 Br.zero.at) 27)).heap[w.heap.size + 1]? = some (.cells (vrow 5 b.at) 26) := ⟨hH.1.alloc hH.1.size _, heap_past _ _ _ _ m0 hH.2.1, heap_past _ _ _ _ m1 hH.2.2⟩
        refine hK.out _ _ hH (fun hH => ?_)
        clear hK K
        (try simp only [Act.put, List.setIfInBounds_toArray, List.set_cons_succ, List.set_cons_zero])
        refine wpAnyH_at 9 #[true, true, true, true, false, false, false, false, false, false, true, false, false, false] (by kernel_rfl) (by kernel_rfl) ?_
        exact N2_01 (W.alloc (.cells (vrow 5 Br.zero.at) 27)) W.heap.size hH V m0 m1
    have N1_11 : ∀ (W : World) (b0 : Nat) (b1 : Nat), (Below w.heap.size w W ∧ W.heap[w.heap.size]? = some (.cells (vrow 5 a.at) 26) ∧ W.heap[w.heap.size + 1]? = some (.cells (vrow 5 b.at) 26)) → W.heap[b0]? = some (.cells (vrow 5 Br.zero.at) 27) → w.heap.size < b0 → w.heap.size + 1 < b0 → W.heap[b1]? = some (.cells (vrow 5 Br.zero.at) 27) → w.heap.size < b1 → w.heap.size + 1 < b1 → b0 ≠ b1 → wpAnyH Try.prog .any O QQ SS 9 #[true, true, true, false, false, false, false, false, false, true, true, false, false, false] { tmps := #[.agg (vrow 5 a.at), .agg (vrow 5 b.at), .pointer (some ⟨w.heap.size, 0, none⟩), .pointer (some ⟨w.heap.size + 1, 0, none⟩), .bool false, .pointer (some ⟨b0, 0, none⟩), .pointer (some ⟨b1, 0, none⟩), undef, undef, undef, undef, undef, .agg (vrow 5 a.at), .agg (vrow 5 a.at), .agg (vrow 5 b.at), undef, undef, undef, undef, undef, undef, undef, undef, undef, undef, undef, undef, undef, undef, undef, undef, undef, undef, undef, undef, undef, undef, undef, undef, undef, undef, undef, undef, undef], defers := [] } W := by
      intro W b0 b1 hH V0 n0_0 n0_1 V1 n1_0 n1_1 d0_1
      subst hO hSS hQQ
      refine wpAnyH_ready (rs := [3]) (by kernel_rfl) (by simp) (AllReadyH.cons rfl (fun K hK => ?_) AllReadyH.nil)
      · rw [if_pos (by rfl)]
        go_simp
        go_at_call 7
        refine (HT1.out _).mono ?_
        rintro o X ⟨rfl, hb⟩
        replace hH : Below w.heap.size w X ∧ X.heap[w.heap.size]? = some (.cells (vrow 5 a.at) 26) ∧ X.heap[w.heap.size + 1]? = some (.cells (vrow 5 b.at) 26) := ⟨hH.1.trans (hb.mono hH.1.size), row_next hb hH.2.1, row_next hb hH.2.2⟩
        replace V0 := row_next hb V0
        replace V1 := row_next hb V1
        clear hb
        refine hK.out _ _ hH (fun hH => ?_)
        clear hK K
        (try simp only [Act.put, List.setIfInBounds_toArray, List.set_cons_succ, List.set_cons_zero])
        refine wpAnyH_at 8 #[true, true, true, true, false, false, false, false, false, true, true, false, false, false] (by kernel_rfl) (by kernel_rfl) ?_
        exact N2_11 X b0 b1 hH V0 n0_0 n0_1 V1 n1_0 n1_1 d0_1
    have N1_10 : ∀ (W : World) (b0 : Nat), (Below w.heap.size w W ∧ W.heap[w.heap.size]? = some (.cells (vrow 5 a.at) 26) ∧ W.heap[w.heap.size + 1]? = some (.cells (vrow 5 b.at) 26)) → W.heap[b0]? = some (.cells (vrow 5 Br.zero.at) 27) → w.heap.size < b0 → w.heap.size + 1 < b0 → wpAnyH Try.prog .any O QQ SS 10 #[true, true, true, false, false, false, false, false, false, true, false, false, false, false] { tmps := #[.agg (vrow 5 a.at), .agg (vrow 5 b.at), .pointer (some ⟨w.heap.size, 0, none⟩), .pointer (some ⟨w.heap.size + 1, 0, none⟩), .bool false, .pointer (some ⟨b0, 0, none⟩), undef, undef, undef, undef, undef, undef, .agg (vrow 5 a.at), .agg (vrow 5 a.at), .agg (vrow 5 b.at), undef, undef, undef, undef, undef, undef, undef, undef, undef, undef, undef, undef, undef, undef, undef, undef, undef, undef, undef, undef, undef, undef, undef, undef, undef, undef, undef, undef, undef], defers := [] } W := by
      intro W b0 hH V0 n0_0 n0_1
      subst hO hSS hQQ
      refine wpAnyH_ready (rs := [3, 10]) (by kernel_rfl) (by simp) (AllReadyH.cons rfl (fun K hK => ?_) (AllReadyH.cons rfl (fun K hK => ?_) AllReadyH.nil))
      · rw [if_pos (by rfl)]
        go_simp
        go_at_call 7
        refine (HT1.out _).mono ?_
        rintro o X ⟨rfl, hb⟩
        replace hH : Below w.heap.size w X ∧ X.heap[w.heap.size]? = some (.cells (vrow 5 a.at) 26) ∧ X.heap[w.heap.size + 1]? = some (.cells (vrow 5 b.at) 26) := ⟨hH.1.trans (hb.mono hH.1.size), row_next hb hH.2.1, row_next hb hH.2.2⟩
        replace V0 := row_next hb V0
        clear hb
        refine hK.out _ _ hH (fun hH => ?_)
        clear hK K
        (try simp only [Act.put, List.setIfInBounds_toArray, List.set_cons_succ, List.set_cons_zero])
        refine wpAnyH_at 9 #[true, true, true, true, false, false, false, false, false, true, false, false, false, false] (by kernel_rfl) (by kernel_rfl) ?_
        exact N2_10 X b0 hH V0 n0_0 n0_1
      · rw [if_pos (by rfl)]
        go_simp
        try simp only [sp_vrow]
        have V := heap_at W (.cells (vrow 5 Br.zero.at) 27) _ rfl
        have m0 := row_lt hH.2.1
        have m1 := row_lt hH.2.2
        have mm0 := row_lt V0
        replace V0 := heap_past _ (.cells (vrow 5 Br.zero.at) 27) _ _ mm0 V0
        replace hH : Below w.heap.size w (W.alloc (.cells (vrow 5 Br.zero.at) 27)) ∧ (W.alloc (.cells (vrow 5 Br.zero.at) 27)).heap[w.heap.size]? = some (.cells (vrow 5 a.at) 26) ∧ (W.alloc (.cells (vrow 5 Br.zero.at) 27)).heap[w.heap.size + 1]? = some (.cells (vrow 5 b.at) 26) := ⟨hH.1.alloc hH.1.size _, heap_past _ _ _ _ m0 hH.2.1, heap_past _ _ _ _ m1 hH.2.2⟩
        refine hK.out _ _ hH (fun hH => ?_)
        clear hK K
        (try simp only [Act.put, List.setIfInBounds_toArray, List.set_cons_succ, List.set_cons_zero])
        refine wpAnyH_at 9 #[true, true, true, false, false, false, false, false, false, true, true, false, false, false] (by kernel_rfl) (by kernel_rfl) ?_
        exact N1_11 (W.alloc (.cells (vrow 5 Br.zero.at) 27)) b0 W.heap.size hH V0 n0_0 n0_1 V m0 m1 (by omega)
    have N1_01 : ∀ (W : World) (b1 : Nat), (Below w.heap.size w W ∧ W.heap[w.heap.size]? = some (.cells (vrow 5 a.at) 26) ∧ W.heap[w.heap.size + 1]? = some (.cells (vrow 5 b.at) 26)) → W.heap[b1]? = some (.cells (vrow 5 Br.zero.at) 27) → w.heap.size < b1 → w.heap.size + 1 < b1 → wpAnyH Try.prog .any O QQ SS 10 #[true, true, true, false, false, false, false, false, false, false, true, false, false, false] { tmps := #[.agg (vrow 5 a.at), .agg (vrow 5 b.at), .pointer (some ⟨w.heap.size, 0, none⟩), .pointer (some ⟨w.heap.size + 1, 0, none⟩), .bool false, undef, .pointer (some ⟨b1, 0, none⟩), undef, undef, undef, undef, undef, .agg (vrow 5 a.at), .agg (vrow 5 a.at), .agg (vrow 5 b.at), undef, undef, undef, undef, undef, undef, undef, undef, undef, undef, undef, undef, undef, undef, undef, undef, undef, undef, undef, undef, undef, undef, undef, undef, undef, undef, undef, undef, undef], defers := [] } W := by
      intro W b1 hH V1 n1_0 n1_1
      subst hO hSS hQQ
      refine wpAnyH_ready (rs := [3, 9]) (by kernel_rfl) (by simp) (AllReadyH.cons rfl (fun K hK => ?_) (AllReadyH.cons rfl (fun K hK => ?_) AllReadyH.nil))
      · rw [if_pos (by rfl)]
        go_simp
        go_at_call 7
        refine (HT1.out _).mono ?_
        rintro o X ⟨rfl, hb⟩
        replace hH : Below w.heap.size w X ∧ X.heap[w.heap.size]? = some (.cells (vrow 5 a.at) 26) ∧ X.heap[w.heap.size + 1]? = some (.cells (vrow 5 b.at) 26) := ⟨hH.1.trans (hb.mono hH.1.size), row_next hb hH.2.1, row_next hb hH.2.2⟩
        replace V1 := row_next hb V1
        clear hb
        refine hK.out _ _ hH (fun hH => ?_)
        clear hK K
        (try simp only [Act.put, List.setIfInBounds_toArray, List.set_cons_succ, List.set_cons_zero])
        refine wpAnyH_at 9 #[true, true, true, true, false, false, false, false, false, false, true, false, false, false] (by kernel_rfl) (by kernel_rfl) ?_
        exact N2_01 X b1 hH V1 n1_0 n1_1
      · rw [if_pos (by rfl)]
        go_simp
        try simp only [sp_vrow]
        have V := heap_at W (.cells (vrow 5 Br.zero.at) 27) _ rfl
        have m0 := row_lt hH.2.1
        have m1 := row_lt hH.2.2
        have mm1 := row_lt V1
        replace V1 := heap_past _ (.cells (vrow 5 Br.zero.at) 27) _ _ mm1 V1
        replace hH : Below w.heap.size w (W.alloc (.cells (vrow 5 Br.zero.at) 27)) ∧ (W.alloc (.cells (vrow 5 Br.zero.at) 27)).heap[w.heap.size]? = some (.cells (vrow 5 a.at) 26) ∧ (W.alloc (.cells (vrow 5 Br.zero.at) 27)).heap[w.heap.size + 1]? = some (.cells (vrow 5 b.at) 26) := ⟨hH.1.alloc hH.1.size _, heap_past _ _ _ _ m0 hH.2.1, heap_past _ _ _ _ m1 hH.2.2⟩
        refine hK.out _ _ hH (fun hH => ?_)
        clear hK K
        (try simp only [Act.put, List.setIfInBounds_toArray, List.set_cons_succ, List.set_cons_zero])
        refine wpAnyH_at 9 #[true, true, true, false, false, false, false, false, false, true, true, false, false, false] (by kernel_rfl) (by kernel_rfl) ?_
        exact N1_11 (W.alloc (.cells (vrow 5 Br.zero.at) 27)) W.heap.size b1 hH V m0 m1 V1 n1_0 n1_1 (by omega)
    have N1_00 : ∀ (W : World), (Below w.heap.size w W ∧ W.heap[w.heap.size]? = some (.cells (vrow 5 a.at) 26) ∧ W.heap[w.heap.size + 1]? = some (.cells (vrow 5 b.at) 26)) → wpAnyH Try.prog .any O QQ SS 11 #[true, true, true, false, false, false, false, false, false, false, false, false, false, false] { tmps := #[.agg (vrow 5 a.at), .agg (vrow 5 b.at), .pointer (some ⟨w.heap.size, 0, none⟩), .pointer (some ⟨w.heap.size + 1, 0, none⟩), .bool false, undef, undef, undef, undef, undef, undef, undef, .agg (vrow 5 a.at), .agg (vrow 5 a.at), .agg (vrow 5 b.at), undef, undef, undef, undef, undef, undef, undef, undef, undef, undef, undef, undef, undef, undef, undef, undef, undef, undef, undef, undef, undef, undef, undef, undef, undef, undef, undef, undef, undef], defers := [] } W := by
      intro W hH
      subst hO hSS hQQ
      refine wpAnyH_ready (rs := [3, 9, 10]) (by kernel_rfl) (by simp) (AllReadyH.cons rfl (fun K hK => ?_) (AllReadyH.cons rfl (fun K hK => ?_) (AllReadyH.cons rfl (fun K hK => ?_) AllReadyH.nil)))
      · rw [if_pos (by rfl)]
        go_simp
        go_at_call 7
        refine (HT1.out _).mono ?_
        rintro o X ⟨rfl, hb⟩
        replace hH : Below w.heap.size w X ∧ X.heap[w.heap.size]? = some (.cells (vrow 5 a.at) 26) ∧ X.heap[w.heap.size + 1]? = some (.cells (vrow 5 b.at) 26) := ⟨hH.1.trans (hb.mono hH.1.size), row_next hb hH.2.1, row_next hb hH.2.2⟩
        clear hb
        refine hK.out _ _ hH (fun hH => ?_)
        clear hK K
        (try simp only [Act.put, List.setIfInBounds_toArray, List.set_cons_succ, List.set_cons_zero])
        refine wpAnyH_at 10 #[true, true, true, true, false, false, false, false, false, false, false, false, false, false] (by kernel_rfl) (by kernel_rfl) ?_
        exact N2_00 X  hH
      · rw [if_pos (by rfl)]
        go_simp
        try simp only [sp_vrow]
        have V := heap_at W (.cells (vrow 5 Br.zero.at) 27) _ rfl
        have m0 := row_lt hH.2.1
        have m1 := row_lt hH.2.2
        replace hH : Below w.heap.size w (W.alloc (.cells (vrow 5 Br.zero.at) 27)) ∧ (W.alloc (.cells (vrow 5 Br.zero.at) 27)).heap[w.heap.size]? = some (.cells (vrow 5 a.at) 26) ∧ (W.alloc (.cells (vrow 5 Br.zero.at) 27)).heap[w.heap.size + 1]? = some (.cells (vrow 5 b.at) 26) := ⟨hH.1.alloc hH.1.size _, heap_past _ _ _ _ m0 hH.2.1, heap_past _ _ _ _ m1 hH.2.2⟩
        refine hK.out _ _ hH (fun hH => ?_)
        clear hK K
        (try simp only [Act.put, List.setIfInBounds_toArray, List.set_cons_succ, List.set_cons_zero])
        refine wpAnyH_at 10 #[true, true, true, false, false, false, false, false, false, true, false, false, false, false] (by kernel_rfl) (by kernel_rfl) ?_
        exact N1_10 (W.alloc (.cells (vrow 5 Br.zero.at) 27)) W.heap.size hH V m0 m1
      · rw [if_pos (by rfl)]
        go_simp
        try simp only [sp_vrow]
        have V := heap_at W (.cells (vrow 5 Br.zero.at) 27) _ rfl
        have m0 := row_lt hH.2.1
        have m1 := row_lt hH.2.2
        replace hH : Below w.heap.size w (W.alloc (.cells (vrow 5 Br.zero.at) 27)) ∧ (W.alloc (.cells (vrow 5 Br.zero.at) 27)).heap[w.heap.size]? = some (.cells (vrow 5 a.at) 26) ∧ (W.alloc (.cells (vrow 5 Br.zero.at) 27)).heap[w.heap.size + 1]? = some (.cells (vrow 5 b.at) 26) := ⟨hH.1.alloc hH.1.size _, heap_past _ _ _ _ m0 hH.2.1, heap_past _ _ _ _ m1 hH.2.2⟩
        refine hK.out _ _ hH (fun hH => ?_)
        clear hK K
        (try simp only [Act.put, List.setIfInBounds_toArray, List.set_cons_succ, List.set_cons_zero])
        refine wpAnyH_at 10 #[true, true, true, false, false, false, false, false, false, false, true, false, false, false] (by kernel_rfl) (by kernel_rfl) ?_
        exact N1_01 (W.alloc (.cells (vrow 5 Br.zero.at) 27)) W.heap.size hH V m0 m1
    have N0_11 : ∀ (W : World) (b0 : Nat) (b1 : Nat), (Below w.heap.size w W ∧ W.heap[w.heap.size]? = some (.cells (vrow 5 a.at) 26) ∧ W.heap[w.heap.size + 1]? = some (.cells (vrow 5 b.at) 26)) → W.heap[b0]? = some (.cells (vrow 5 Br.zero.at) 27) → w.heap.size < b0 → w.heap.size + 1 < b0 → W.heap[b1]? = some (.cells (vrow 5 Br.zero.at) 27) → w.heap.size < b1 → w.heap.size + 1 < b1 → b0 ≠ b1 → wpAnyH Try.prog .any O QQ SS 10 #[true, false, true, false, false, false, false, false, false, true, true, false, false, false] { tmps := #[.agg (vrow 5 a.at), .agg (vrow 5 b.at), .pointer (some ⟨w.heap.size, 0, none⟩), .pointer (some ⟨w.heap.size + 1, 0, none⟩), .bool false, .pointer (some ⟨b0, 0, none⟩), .pointer (some ⟨b1, 0, none⟩), undef, undef, undef, undef, undef, .agg (vrow 5 a.at), undef, .agg (vrow 5 b.at), undef, undef, undef, undef, undef, undef, undef, undef, undef, undef, undef, undef, undef, undef, undef, undef, undef, undef, undef, undef, undef, undef, undef, undef, undef, undef, undef, undef, undef], defers := [] } W := by
      intro W b0 b1 hH V0 n0_0 n0_1 V1 n1_0 n1_1 d0_1
      subst hO hSS hQQ
      refine wpAnyH_ready (rs := [1]) (by kernel_rfl) (by simp) (AllReadyH.cons rfl (fun K hK => ?_) AllReadyH.nil)
      · rw [if_pos (by rfl)]
        go_simp
        go_at_call 7
        refine (HT0.out _).mono ?_
        rintro o X ⟨rfl, hb⟩
        replace hH : Below w.heap.size w X ∧ X.heap[w.heap.size]? = some (.cells (vrow 5 a.at) 26) ∧ X.heap[w.heap.size + 1]? = some (.cells (vrow 5 b.at) 26) := ⟨hH.1.trans (hb.mono hH.1.size), row_next hb hH.2.1, row_next hb hH.2.2⟩
        replace V0 := row_next hb V0
        replace V1 := row_next hb V1
        clear hb
        refine hK.out _ _ hH (fun hH => ?_)
        clear hK K
        (try simp only [Act.put, List.setIfInBounds_toArray, List.set_cons_succ, List.set_cons_zero])
        refine wpAnyH_at 9 #[true, true, true, false, false, false, false, false, false, true, true, false, false, false] (by kernel_rfl) (by kernel_rfl) ?_
        exact N1_11 X b0 b1 hH V0 n0_0 n0_1 V1 n1_0 n1_1 d0_1
    have N0_10 : ∀ (W : World) (b0 : Nat), (Below w.heap.size w W ∧ W.heap[w.heap.size]? = some (.cells (vrow 5 a.at) 26) ∧ W.heap[w.heap.size + 1]? = some (.cells (vrow 5 b.at) 26)) → W.heap[b0]? = some (.cells (vrow 5 Br.zero.at) 27) → w.heap.size < b0 → w.heap.size + 1 < b0 → wpAnyH Try.prog .any O QQ SS 11 #[true, false, true, false, false, false, false, false, false, true, false, false, false, false] { tmps := #[.agg (vrow 5 a.at), .agg (vrow 5 b.at), .pointer (some ⟨w.heap.size, 0, none⟩), .pointer (some ⟨w.heap.size + 1, 0, none⟩), .bool false, .pointer (some ⟨b0, 0, none⟩), undef, undef, undef, undef, undef, undef, .agg (vrow 5 a.at), undef, .agg (vrow 5 b.at), undef, undef, undef, undef, undef, undef, undef, undef, undef, undef, undef, undef, undef, undef, undef, undef, undef, undef, undef, undef, undef, undef, undef, undef, undef, undef, undef, undef, undef], defers := [] } W := by
      intro W b0 hH V0 n0_0 n0_1
      subst hO hSS hQQ
      refine wpAnyH_ready (rs := [1, 10]) (by kernel_rfl) (by simp) (AllReadyH.cons rfl (fun K hK => ?_) (AllReadyH.cons rfl (fun K hK => ?_) AllReadyH.nil))
      · rw [if_pos (by rfl)]
        go_simp
        go_at_call 7
        refine (HT0.out _).mono ?_
        rintro o X ⟨rfl, hb⟩
        replace hH : Below w.heap.size w X ∧ X.heap[w.heap.size]? = some (.cells (vrow 5 a.at) 26) ∧ X.heap[w.heap.size + 1]? = some (.cells (vrow 5 b.at) 26) := ⟨hH.1.trans (hb.mono hH.1.size), row_next hb hH.2.1, row_next hb hH.2.2⟩
        replace V0 := row_next hb V0
        clear hb
        refine hK.out _ _ hH (fun hH => ?_)
        clear hK K
        (try simp only [Act.put, List.setIfInBounds_toArray, List.set_cons_succ, List.set_cons_zero])
        refine wpAnyH_at 10 #[true, true, true, false, false, false, false, false, false, true, false, false, false, false] (by kernel_rfl) (by kernel_rfl) ?_
        exact N1_10 X b0 hH V0 n0_0 n0_1
      · rw [if_pos (by rfl)]
        go_simp
        try simp only [sp_vrow]
        have V := heap_at W (.cells (vrow 5 Br.zero.at) 27) _ rfl
        have m0 := row_lt hH.2.1
        have m1 := row_lt hH.2.2
        have mm0 := row_lt V0
        replace V0 := heap_past _ (.cells (vrow 5 Br.zero.at) 27) _ _ mm0 V0
        replace hH : Below w.heap.size w (W.alloc (.cells (vrow 5 Br.zero.at) 27)) ∧ (W.alloc (.cells (vrow 5 Br.zero.at) 27)).heap[w.heap.size]? = some (.cells (vrow 5 a.at) 26) ∧ (W.alloc (.cells (vrow 5 Br.zero.at) 27)).heap[w.heap.size + 1]? = some (.cells (vrow 5 b.at) 26) := ⟨hH.1.alloc hH.1.size _, heap_past _ _ _ _ m0 hH.2.1, heap_past _ _ _ _ m1 hH.2.2⟩
        refine hK.out _ _ hH (fun hH => ?_)
        clear hK K
        (try simp only [Act.put, List.setIfInBounds_toArray, List.set_cons_succ, List.set_cons_zero])
        refine wpAnyH_at 10 #[true, false, true, false, false, false, false, false, false, true, true, false, false, false] (by kernel_rfl) (by kernel_rfl) ?_
        exact N0_11 (W.alloc (.cells (vrow 5 Br.zero.at) 27)) b0 W.heap.size hH V0 n0_0 n0_1 V m0 m1 (by omega)
    have N0_01 : ∀ (W : World) (b1 : Nat), (Below w.heap.size w W ∧ W.heap[w.heap.size]? = some (.cells (vrow 5 a.at) 26) ∧ W.heap[w.heap.size + 1]? = some (.cells (vrow 5 b.at) 26)) → W.heap[b1]? = some (.cells (vrow 5 Br.zero.at) 27) → w.heap.size < b1 → w.heap.size + 1 < b1 → wpAnyH Try.prog .any O QQ SS 11 #[true, false, true, false, false, false, false, false, false, false, true, false, false, false] { tmps := #[.agg (vrow 5 a.at), .agg (vrow 5 b.at), .pointer (some ⟨w.heap.size, 0, none⟩), .pointer (some ⟨w.heap.size + 1, 0, none⟩), .bool false, undef, .pointer (some ⟨b1, 0, none⟩), undef, undef, undef, undef, undef, .agg (vrow 5 a.at), undef, .agg (vrow 5 b.at), undef, undef, undef, undef, undef, undef, undef, undef, undef, undef, undef, undef, undef, undef, undef, undef, undef, undef, undef, undef, undef, undef, undef, undef, undef, undef, undef, undef, undef], defers := [] } W := by
      intro W b1 hH V1 n1_0 n1_1
      subst hO hSS hQQ
      refine wpAnyH_ready (rs := [1, 9]) (by kernel_rfl) (by simp) (AllReadyH.cons rfl (fun K hK => ?_) (AllReadyH.cons rfl (fun K hK => ?_) AllReadyH.nil))
      · rw [if_pos (by rfl)]
        go_simp
        go_at_call 7
        refine (HT0.out _).mono ?_
        rintro o X ⟨rfl, hb⟩
        replace hH : Below w.heap.size w X ∧ X.heap[w.heap.size]? = some (.cells (vrow 5 a.at) 26) ∧ X.heap[w.heap.size + 1]? = some (.cells (vrow 5 b.at) 26) := ⟨hH.1.trans (hb.mono hH.1.size), row_next hb hH.2.1, row_next hb hH.2.2⟩
        replace V1 := row_next hb V1
        clear hb
        refine hK.out _ _ hH (fun hH => ?_)
        clear hK K
        (try simp only [Act.put, List.setIfInBounds_toArray, List.set_cons_succ, List.set_cons_zero])
        refine wpAnyH_at 10 #[true, true, true, false, false, false, false, false, false, false, true, false, false, false] (by kernel_rfl) (by kernel_rfl) ?_
        exact N1_01 X b1 hH V1 n1_0 n1_1
      · rw [if_pos (by rfl)]
        go_simp
        try simp only [sp_vrow]
        have V := heap_at W (.cells (vrow 5 Br.zero.at) 27) _ rfl
        have m0 := row_lt hH.2.1
        have m1 := row_lt hH.2.2
        have mm1 := row_lt V1
        replace V1 := heap_past _ (.cells (vrow 5 Br.zero.at) 27) _ _ mm1 V1
        replace hH : Below w.heap.size w (W.alloc (.cells (vrow 5 Br.zero.at) 27)) ∧ (W.alloc (.cells (vrow 5 Br.zero.at) 27)).heap[w.heap.size]? = some (.cells (vrow 5 a.at) 26) ∧ (W.alloc (.cells (vrow 5 Br.zero.at) 27)).heap[w.heap.size + 1]? = some (.cells (vrow 5 b.at) 26) := ⟨hH.1.alloc hH.1.size _, heap_past _ _ _ _ m0 hH.2.1, heap_past _ _ _ _ m1 hH.2.2⟩
        refine hK.out _ _ hH (fun hH => ?_)
        clear hK K
        (try simp only [Act.put, List.setIfInBounds_toArray, List.set_cons_succ, List.set_cons_zero])
        refine wpAnyH_at 10 #[true, false, true, false, false, false, false, false, false, true, true, false, false, false] (by kernel_rfl) (by kernel_rfl) ?_
        exact N0_11 (W.alloc (.cells (vrow 5 Br.zero.at) 27)) W.heap.size b1 hH V m0 m1 V1 n1_0 n1_1 (by omega)
    have N0_00 : ∀ (W : World), (Below w.heap.size w W ∧ W.heap[w.heap.size]? = some (.cells (vrow 5 a.at) 26) ∧ W.heap[w.heap.size + 1]? = some (.cells (vrow 5 b.at) 26)) → wpAnyH Try.prog .any O QQ SS 12 #[true, false, true, false, false, false, false, false, false, false, false, false, false, false] { tmps := #[.agg (vrow 5 a.at), .agg (vrow 5 b.at), .pointer (some ⟨w.heap.size, 0, none⟩), .pointer (some ⟨w.heap.size + 1, 0, none⟩), .bool false, undef, undef, undef, undef, undef, undef, undef, .agg (vrow 5 a.at), undef, .agg (vrow 5 b.at), undef, undef, undef, undef, undef, undef, undef, undef, undef, undef, undef, undef, undef, undef, undef, undef, undef, undef, undef, undef, undef, undef, undef, undef, undef, undef, undef, undef, undef], defers := [] } W := by
      intro W hH
      subst hO hSS hQQ
      refine wpAnyH_ready (rs := [1, 9, 10]) (by kernel_rfl) (by simp) (AllReadyH.cons rfl (fun K hK => ?_) (AllReadyH.cons rfl (fun K hK => ?_) (AllReadyH.cons rfl (fun K hK => ?_) AllReadyH.nil)))
      · rw [if_pos (by rfl)]
        go_simp
        go_at_call 7
        refine (HT0.out _).mono ?_
        rintro o X ⟨rfl, hb⟩
        replace hH : Below w.heap.size w X ∧ X.heap[w.heap.size]? = some (.cells (vrow 5 a.at) 26) ∧ X.heap[w.heap.size + 1]? = some (.cells (vrow 5 b.at) 26) := ⟨hH.1.trans (hb.mono hH.1.size), row_next hb hH.2.1, row_next hb hH.2.2⟩
        clear hb
        refine hK.out _ _ hH (fun hH => ?_)
        clear hK K
        (try simp only [Act.put, List.setIfInBounds_toArray, List.set_cons_succ, List.set_cons_zero])
        refine wpAnyH_at 11 #[true, true, true, false, false, false, false, false, false, false, false, false, false, false] (by kernel_rfl) (by kernel_rfl) ?_
        exact N1_00 X  hH
      · rw [if_pos (by rfl)]
        go_simp
        try simp only [sp_vrow]
        have V := heap_at W (.cells (vrow 5 Br.zero.at) 27) _ rfl
        have m0 := row_lt hH.2.1
        have m1 := row_lt hH.2.2
        replace hH : Below w.heap.size w (W.alloc (.cells (vrow 5 Br.zero.at) 27)) ∧ (W.alloc (.cells (vrow 5 Br.zero.at) 27)).heap[w.heap.size]? = some (.cells (vrow 5 a.at) 26) ∧ (W.alloc (.cells (vrow 5 Br.zero.at) 27)).heap[w.heap.size + 1]? = some (.cells (vrow 5 b.at) 26) := ⟨hH.1.alloc hH.1.size _, heap_past _ _ _ _ m0 hH.2.1, heap_past _ _ _ _ m1 hH.2.2⟩
        refine hK.out _ _ hH (fun hH => ?_)
        clear hK K
        (try simp only [Act.put, List.setIfInBounds_toArray, List.set_cons_succ, List.set_cons_zero])
        refine wpAnyH_at 11 #[true, false, true, false, false, false, false, false, false, true, false, false, false, false] (by kernel_rfl) (by kernel_rfl) ?_
        exact N0_10 (W.alloc (.cells (vrow 5 Br.zero.at) 27)) W.heap.size hH V m0 m1
      · rw [if_pos (by rfl)]
        go_simp
        try simp only [sp_vrow]
        have V := heap_at W (.cells (vrow 5 Br.zero.at) 27) _ rfl
        have m0 := row_lt hH.2.1
        have m1 := row_lt hH.2.2
        replace hH : Below w.heap.size w (W.alloc (.cells (vrow 5 Br.zero.at) 27)) ∧ (W.alloc (.cells (vrow 5 Br.zero.at) 27)).heap[w.heap.size]? = some (.cells (vrow 5 a.at) 26) ∧ (W.alloc (.cells (vrow 5 Br.zero.at) 27)).heap[w.heap.size + 1]? = some (.cells (vrow 5 b.at) 26) := ⟨hH.1.alloc hH.1.size _, heap_past _ _ _ _ m0 hH.2.1, heap_past _ _ _ _ m1 hH.2.2⟩
        refine hK.out _ _ hH (fun hH => ?_)
        clear hK K
        (try simp only [Act.put, List.setIfInBounds_toArray, List.set_cons_succ, List.set_cons_zero])
        refine wpAnyH_at 11 #[true, false, true, false, false, false, false, false, false, false, true, false, false, false] (by kernel_rfl) (by kernel_rfl) ?_
        exact N0_01 (W.alloc (.cells (vrow 5 Br.zero.at) 27)) W.heap.size hH V m0 m1
    subst hO hSS hQQ
    refine wp_region_held_drew (S := fun W' => Below w.heap.size w W' ∧ W'.heap[w.heap.size]? = some (.cells (vrow 5 a.at) 26) ∧ W'.heap[w.heap.size + 1]? = some (.cells (vrow 5 b.at) 26)) (by kernel_rfl) ⟨hB.out.drew, P0.out, P1.out⟩ (fun hH => ?_)
    generalize World.drew _ = W at hH ⊢
    refine wpAnyH_take (i := 0) (v := (.agg (vrow 5 a.at))) rfl (by kernel_rfl) (by kernel_rfl) (by kernel_rfl) (fun _ _ _ h => by cases h.1) (yields_row (by rfl) 26 _ rfl (w.heap.size) rfl 5 a.at 26 _ Try.underlying26 rfl size_lbr (fun _ h => h.2.1)) hH ?_
    (try simp only [Act.put, List.setIfInBounds_toArray, List.set_cons_succ, List.set_cons_zero])
    refine wpAnyH_take (i := 2) (v := (.agg (vrow 5 b.at))) rfl (by kernel_rfl) (by kernel_rfl) (by kernel_rfl) (fun _ _ _ h => by cases h.1) (yields_row (by rfl) 26 _ rfl (w.heap.size + 1) rfl 5 b.at 26 _ Try.underlying26 rfl size_lbr (fun _ h => h.2.2)) hH ?_
    (try simp only [Act.put, List.setIfInBounds_toArray, List.set_cons_succ, List.set_cons_zero])
    refine wpAnyH_at 12 #[true, false, true, false, false, false, false, false, false, false, false, false, false, false] (by kernel_rfl) (by kernel_rfl) ?_
    exact N0_00 W hH
  rintro e1 a1 W1 ⟨rfl, b0, b1, rfl, ⟨hB, P0, P1⟩, U0, U1⟩
  replace hB := Go.Lib.hid hB; replace P0 := Go.Lib.hid P0; replace P1 := Go.Lib.hid P1; replace U0 := Go.Lib.hid U0; replace U1 := Go.Lib.hid U1
  go_wp2
  refine Code.wp_mono (Q := fun e a' W' => e = .normal ∧ ∃ c0 c1, a' = { tmps := #[.agg (vrow 5 a.at), .agg (vrow 5 b.at), .pointer (some ⟨w.heap.size, 0, none⟩), .pointer (some ⟨w.heap.size + 1, 0, none⟩), .bool false, .pointer (some ⟨b0, 0, none⟩), .pointer (some ⟨b1, 0, none⟩), .int .i64 c, .pointer (some ⟨c0, 0, none⟩), .pointer (some ⟨c1, 0, none⟩), .int .i64 c, .tuple #[.agg (vrow 5 r.at), .agg (vrow 5 q.at), .int .i64 c], .agg (vrow 5 a.at), .agg (vrow 5 a.at), .agg (vrow 5 b.at), .agg (vrow 5 b.at), .tuple #[.agg (vrow 5 r.at), .agg (vrow 5 q.at), .int .i64 c], .agg (vrow 5 r.at), .agg (vrow 5 q.at), .int .i64 c, .tuple #[.agg (vrow 5 r.at), .agg (vrow 5 q.at), .int .i64 c], .agg (vrow 5 a.at), .agg (vrow 5 a.at), .agg (vrow 5 b.at), .agg (vrow 5 b.at), .tuple #[.agg (vrow 5 r.at), .agg (vrow 5 q.at), .int .i64 c], .agg (vrow 5 r.at), .agg (vrow 5 q.at), .int .i64 c, undef, undef, undef, undef, undef, undef, undef, undef, undef, undef, undef, undef, undef, undef, undef], defers := [] } ∧ (Below w.heap.size w W' ∧ W'.heap[w.heap.size]? = some (.cells (vrow 5 a.at) 26) ∧ W'.heap[w.heap.size + 1]? = some (.cells (vrow 5 b.at) 26) ∧ W'.heap[b0]? = some (.cells (vrow 5 r.at) 27) ∧ W'.heap[b1]? = some (.cells (vrow 5 q.at) 27)) ∧ W'.heap[c0]? = some (.cells (vrow 5 r.at) 27) ∧ W'.heap[c1]? = some (.cells (vrow 5 q.at) 27)) ?_ ?_
  rotate_left
  · refine region_gen (fun O hO => ?_)
    obtain ⟨SS, hSS⟩ : ∃ zS : World → Prop, zS = (fun W' => Below w.heap.size w W' ∧ W'.heap[w.heap.size]? = some (.cells (vrow 5 a.at) 26) ∧ W'.heap[w.heap.size + 1]? = some (.cells (vrow 5 b.at) 26) ∧ W'.heap[b0]? = some (.cells (vrow 5 r.at) 27) ∧ W'.heap[b1]? = some (.cells (vrow 5 q.at) 27)) := ⟨_, rfl⟩
    obtain ⟨QQ, hQQ⟩ : ∃ zQ : Exit → Act → World → Prop, zQ = (fun e a' W' => e = .normal ∧ ∃ c0 c1, a' = { tmps := #[.agg (vrow 5 a.at), .agg (vrow 5 b.at), .pointer (some ⟨w.heap.size, 0, none⟩), .pointer (some ⟨w.heap.size + 1, 0, none⟩), .bool false, .pointer (some ⟨b0, 0, none⟩), .pointer (some ⟨b1, 0, none⟩), .int .i64 c, .pointer (some ⟨c0, 0, none⟩), .pointer (some ⟨c1, 0, none⟩), .int .i64 c, .tuple #[.agg (vrow 5 r.at), .agg (vrow 5 q.at), .int .i64 c], .agg (vrow 5 a.at), .agg (vrow 5 a.at), .agg (vrow 5 b.at), .agg (vrow 5 b.at), .tuple #[.agg (vrow 5 r.at), .agg (vrow 5 q.at), .int .i64 c], .agg (vrow 5 r.at), .agg (vrow 5 q.at), .int .i64 c, .tuple #[.agg (vrow 5 r.at), .agg (vrow 5 q.at), .int .i64 c], .agg (vrow 5 a.at), .agg (vrow 5 a.at), .agg (vrow 5 b.at), .agg (vrow 5 b.at), .tuple #[.agg (vrow 5 r.at), .agg (vrow 5 q.at), .int .i64 c], .agg (vrow 5 r.at), .agg (vrow 5 q.at), .int .i64 c, undef, undef, undef, undef, undef, undef, undef, undef, undef, undef, undef, undef, undef, undef, undef], defers := [] } ∧ (Below w.heap.size w W' ∧ W'.heap[w.heap.size]? = some (.cells (vrow 5 a.at) 26) ∧ W'.heap[w.heap.size + 1]? = some (.cells (vrow 5 b.at) 26) ∧ W'.heap[b0]? = some (.cells (vrow 5 r.at) 27) ∧ W'.heap[b1]? = some (.cells (vrow 5 q.at) 27)) ∧ W'.heap[c0]? = some (.cells (vrow 5 r.at) 27) ∧ W'.heap[c1]? = some (.cells (vrow 5 q.at) 27)) := ⟨_, rfl⟩
    rw [← hQQ]
    have M3_11 : ∀ (W : World) (c0 : Nat) (c1 : Nat), (Below w.heap.size w W ∧ W.heap[w.heap.size]? = some (.cells (vrow 5 a.at) 26) ∧ W.heap[w.heap.size + 1]? = some (.cells (vrow 5 b.at) 26) ∧ W.heap[b0]? = some (.cells (vrow 5 r.at) 27) ∧ W.heap[b1]? = some (.cells (vrow 5 q.at) 27)) → W.heap[c0]? = some (.cells (vrow 5 Br.zero.at) 27) → w.heap.size < c0 → w.heap.size + 1 < c0 → b0 < c0 → b1 < c0 → W.heap[c1]? = some (.cells (vrow 5 Br.zero.at) 27) → w.heap.size < c1 → w.heap.size + 1 < c1 → b0 < c1 → b1 < c1 → c0 ≠ c1 → wpAnyH Try.prog .any O QQ SS 3 #[true, true, true, true, true, true, true, true, true, true, true, false, false, false] { tmps := #[.agg (vrow 5 a.at), .agg (vrow 5 b.at), .pointer (some ⟨w.heap.size, 0, none⟩), .pointer (some ⟨w.heap.size + 1, 0, none⟩), .bool false, .pointer (some ⟨b0, 0, none⟩), .pointer (some ⟨b1, 0, none⟩), .int .i64 c, .pointer (some ⟨c0, 0, none⟩), .pointer (some ⟨c1, 0, none⟩), undef, .tuple #[.agg (vrow 5 r.at), .agg (vrow 5 q.at), .int .i64 c], .agg (vrow 5 a.at), .agg (vrow 5 a.at), .agg (vrow 5 b.at), .agg (vrow 5 b.at), .tuple #[.agg (vrow 5 r.at), .agg (vrow 5 q.at), .int .i64 c], .agg (vrow 5 r.at), .agg (vrow 5 q.at), .int .i64 c, .tuple #[.agg (vrow 5 r.at), .agg (vrow 5 q.at), .int .i64 c], .agg (vrow 5 a.at), .agg (vrow 5 a.at), .agg (vrow 5 b.at), .agg (vrow 5 b.at), .tuple #[.agg (vrow 5 r.at), .agg (vrow 5 q.at), .int .i64 c], .agg (vrow 5 r.at), .agg (vrow 5 q.at), .int .i64 c, undef, undef, undef, undef, undef, undef, undef, undef, undef, undef, undef, undef, undef, undef, undef], defers := [] } W := by
      intro W c0 c1 hH V0 n0_0 n0_1 n0_2 n0_3 V1 n1_0 n1_1 n1_2 n1_3 d0_1
      subst hO hSS hQQ
      refine wpAnyH_ready (rs := [11]) (by kernel_rfl) (by simp) (AllReadyH.cons rfl (fun K hK => ?_) AllReadyH.nil)
      rw [if_pos (by rfl)]
      unfold Oper.wp
      rw [run_storemid 27 (.tmp 8) (.tmp 26) rfl c0 0 rfl 5 5 Br.zero.at r.at rfl 27 size_br V0 (by omega) (fun i _ => Br.one _ i), vrow_over_all, Oper.upon_skip]
      replace V0 := row_set V0 (vrow 5 r.at)
      replace V1 := row_set' (show c1 ≠ c0 by omega) V1 (vrow 5 r.at)
      have hH2 : Below w.heap.size w (W.setRow c0 (vrow 5 r.at)) ∧ (W.setRow c0 (vrow 5 r.at)).heap[w.heap.size]? = some (.cells (vrow 5 a.at) 26) ∧ (W.setRow c0 (vrow 5 r.at)).heap[w.heap.size + 1]? = some (.cells (vrow 5 b.at) 26) ∧ (W.setRow c0 (vrow 5 r.at)).heap[b0]? = some (.cells (vrow 5 r.at) 27) ∧ (W.setRow c0 (vrow 5 r.at)).heap[b1]? = some (.cells (vrow 5 q.at) 27) := ⟨Below_setRow hH.1 (by omega) _, row_set' (by omega) hH.2.1 _, row_set' (by omega) hH.2.2.1 _, row_set' (by omega) hH.2.2.2.1 _, row_set' (by omega) hH.2.2.2.2 _⟩
      refine hK.out _ _ hH2 (fun hH => ?_)
      clear hK K hH2
      (try simp only [Act.put, List.setIfInBounds_toArray, List.set_cons_succ, List.set_cons_zero])
      generalize (W.setRow c0 (vrow 5 r.at)) = Y0 at hH V0 V1 ⊢
      refine wpAnyH_ready (rs := [12]) (by kernel_rfl) (by simp) (AllReadyH.cons rfl (fun K hK => ?_) AllReadyH.nil)
      rw [if_pos (by rfl)]
      unfold Oper.wp
      rw [run_storemid 27 (.tmp 9) (.tmp 27) rfl c1 0 rfl 5 5 Br.zero.at q.at rfl 27 size_br V1 (by omega) (fun i _ => Br.one _ i), vrow_over_all, Oper.upon_skip]
      replace V0 := row_set' (show c0 ≠ c1 by omega) V0 (vrow 5 q.at)
      replace V1 := row_set V1 (vrow 5 q.at)
      have hH2 : Below w.heap.size w (Y0.setRow c1 (vrow 5 q.at)) ∧ (Y0.setRow c1 (vrow 5 q.at)).heap[w.heap.size]? = some (.cells (vrow 5 a.at) 26) ∧ (Y0.setRow c1 (vrow 5 q.at)).heap[w.heap.size + 1]? = some (.cells (vrow 5 b.at) 26) ∧ (Y0.setRow c1 (vrow 5 q.at)).heap[b0]? = some (.cells (vrow 5 r.at) 27) ∧ (Y0.setRow c1 (vrow 5 q.at)).heap[b1]? = some (.cells (vrow 5 q.at) 27) := ⟨Below_setRow hH.1 (by omega) _, row_set' (by omega) hH.2.1 _, row_set' (by omega) hH.2.2.1 _, row_set' (by omega) hH.2.2.2.1 _, row_set' (by omega) hH.2.2.2.2 _⟩
      refine hK.out _ _ hH2 (fun hH => ?_)
      clear hK K hH2
      (try simp only [Act.put, List.setIfInBounds_toArray, List.set_cons_succ, List.set_cons_zero])
      generalize (Y0.setRow c1 (vrow 5 q.at)) = Y1 at hH V0 V1 ⊢
      refine wpAnyH_take (i := 13) (v := (.int .i64 c)) rfl (by kernel_rfl) (by kernel_rfl) (by kernel_rfl) (fun _ _ _ h => by cases h.1) (.inl ⟨by rfl, fun w _ => by go_simp⟩) hH ?_
      (try simp only [Act.put, List.setIfInBounds_toArray, List.set_cons_succ, List.set_cons_zero])
      refine wpAnyH_done (by kernel_rfl) ?_ _
      exact ⟨rfl, c0, c1, rfl, hH, V0, V1⟩
    have M3_10 : ∀ (W : World) (c0 : Nat), (Below w.heap.size w W ∧ W.heap[w.heap.size]? = some (.cells (vrow 5 a.at) 26) ∧ W.heap[w.heap.size + 1]? = some (.cells (vrow 5 b.at) 26) ∧ W.heap[b0]? = some (.cells (vrow 5 r.at) 27) ∧ W.heap[b1]? = some (.cells (vrow 5 q.at) 27)) → W.heap[c0]? = some (.cells (vrow 5 Br.zero.at) 27) → w.heap.size < c0 → w.heap.size + 1 < c0 → b0 < c0 → b1 < c0 → wpAnyH Try.prog .any O QQ SS 4 #[true, true, true, true, true, true, true, true, true, true, false, false, false, false] { tmps := #[.agg (vrow 5 a.at), .agg (vrow 5 b.at), .pointer (some ⟨w.heap.size, 0, none⟩), .pointer (some ⟨w.heap.size + 1, 0, none⟩), .bool false, .pointer (some ⟨b0, 0, none⟩), .pointer (some ⟨b1, 0, none⟩), .int .i64 c, .pointer (some ⟨c0, 0, none⟩), undef, undef, .tuple #[.agg (vrow 5 r.at), .agg (vrow 5 q.at), .int .i64 c], .agg (vrow 5 a.at), .agg (vrow 5 a.at), .agg (vrow 5 b.at), .agg (vrow 5 b.at), .tuple #[.agg (vrow 5 r.at), .agg (vrow 5 q.at), .int .i64 c], .agg (vrow 5 r.at), .agg (vrow 5 q.at), .int .i64 c, .tuple #[.agg (vrow 5 r.at), .agg (vrow 5 q.at), .int .i64 c], .agg (vrow 5 a.at), .agg (vrow 5 a.at), .agg (vrow 5 b.at), .agg (vrow 5 b.at), .tuple #[.agg (vrow 5 r.at), .agg (vrow 5 q.at), .int .i64 c], .agg (vrow 5 r.at), .agg (vrow 5 q.at), .int .i64 c, undef, undef, undef, undef, undef, undef, undef, undef, undef, undef, undef, undef, undef, undef, undef], defers := [] } W := by
      intro W c0 hH V0 n0_0 n0_1 n0_2 n0_3
      subst hO hSS hQQ
      refine wpAnyH_ready (rs := [10]) (by kernel_rfl) (by simp) (AllReadyH.cons rfl (fun K hK => ?_) AllReadyH.nil)
      · rw [if_pos (by rfl)]
        go_simp
        try simp only [sp_vrow]
        have V := heap_at W (.cells (vrow 5 Br.zero.at) 27) _ rfl
        have m0 := row_lt hH.2.1
        have m1 := row_lt hH.2.2.1
        have m2 := row_lt hH.2.2.2.1
        have m3 := row_lt hH.2.2.2.2
        have mm0 := row_lt V0
        replace V0 := heap_past _ (.cells (vrow 5 Br.zero.at) 27) _ _ mm0 V0
        replace hH : Below w.heap.size w (W.alloc (.cells (vrow 5 Br.zero.at) 27)) ∧ (W.alloc (.cells (vrow 5 Br.zero.at) 27)).heap[w.heap.size]? = some (.cells (vrow 5 a.at) 26) ∧ (W.alloc (.cells (vrow 5 Br.zero.at) 27)).heap[w.heap.size + 1]? = some (.cells (vrow 5 b.at) 26) ∧ (W.alloc (.cells (vrow 5 Br.zero.at) 27)).heap[b0]? = some (.cells (vrow 5 r.at) 27) ∧ (W.alloc (.cells (vrow 5 Br.zero.at) 27)).heap[b1]? = some (.cells (vrow 5 q.at) 27) := ⟨hH.1.alloc hH.1.size _, heap_past _ _ _ _ m0 hH.2.1, heap_past _ _ _ _ m1 hH.2.2.1, heap_past _ _ _ _ m2 hH.2.2.2.1, heap_past _ _ _ _ m3 hH.2.2.2.2⟩
        refine hK.out _ _ hH (fun hH => ?_)
        clear hK K
        (try simp only [Act.put, List.setIfInBounds_toArray, List.set_cons_succ, List.set_cons_zero])
        refine wpAnyH_at 3 #[true, true, true, true, true, true, true, true, true, true, true, false, false, false] (by kernel_rfl) (by kernel_rfl) ?_
        exact M3_11 (W.alloc (.cells (vrow 5 Br.zero.at) 27)) c0 W.heap.size hH V0 n0_0 n0_1 n0_2 n0_3 V m0 m1 m2 m3 (by omega)
    have M3_01 : ∀ (W : World) (c1 : Nat), (Below w.heap.size w W ∧ W.heap[w.heap.size]? = some (.cells (vrow 5 a.at) 26) ∧ W.heap[w.heap.size + 1]? = some (.cells (vrow 5 b.at) 26) ∧ W.heap[b0]? = some (.cells (vrow 5 r.at) 27) ∧ W.heap[b1]? = some (.cells (vrow 5 q.at) 27)) → W.heap[c1]? = some (.cells (vrow 5 Br.zero.at) 27) → w.heap.size < c1 → w.heap.size + 1 < c1 → b0 < c1 → b1 < c1 → wpAnyH Try.prog .any O QQ SS 4 #[true, true, true, true, true, true, true, true, true, false, true, false, false, false] { tmps := #[.agg (vrow 5 a.at), .agg (vrow 5 b.at), .pointer (some ⟨w.heap.size, 0, none⟩), .pointer (some ⟨w.heap.size + 1, 0, none⟩), .bool false, .pointer (some ⟨b0, 0, none⟩), .pointer (some ⟨b1, 0, none⟩), .int .i64 c, undef, .pointer (some ⟨c1, 0, none⟩), undef, .tuple #[.agg (vrow 5 r.at), .agg (vrow 5 q.at), .int .i64 c], .agg (vrow 5 a.at), .agg (vrow 5 a.at), .agg (vrow 5 b.at), .agg (vrow 5 b.at), .tuple #[.agg (vrow 5 r.at), .agg (vrow 5 q.at), .int .i64 c], .agg (vrow 5 r.at), .agg (vrow 5 q.at), .int .i64 c, .tuple #[.agg (vrow 5 r.at), .agg (vrow 5 q.at), .int .i64 c], .agg (vrow 5 a.at), .agg (vrow 5 a.at), .agg (vrow 5 b.at), .agg (vrow 5 b.at), .tuple #[.agg (vrow 5 r.at), .agg (vrow 5 q.at), .int .i64 c], .agg (vrow 5 r.at), .agg (vrow 5 q.at), .int .i64 c, undef, undef, undef, undef, undef, undef, undef, undef, undef, undef, undef, undef, undef, undef, undef], defers := [] } W := by
      intro W c1 hH V1 n1_0 n1_1 n1_2 n1_3
      subst hO hSS hQQ
      refine wpAnyH_ready (rs := [9]) (by kernel_rfl) (by simp) (AllReadyH.cons rfl (fun K hK => ?_) AllReadyH.nil)
      · rw [if_pos (by rfl)]
        go_simp
        try simp only [sp_vrow]
        have V := heap_at W (.cells (vrow 5 Br.zero.at) 27) _ rfl
        have m0 := row_lt hH.2.1
        have m1 := row_lt hH.2.2.1
        have m2 := row_lt hH.2.2.2.1
        have m3 := row_lt hH.2.2.2.2
        have mm1 := row_lt V1
        replace V1 := heap_past _ (.cells (vrow 5 Br.zero.at) 27) _ _ mm1 V1
        replace hH : Below w.heap.size w (W.alloc (.cells (vrow 5 Br.zero.at) 27)) ∧ (W.alloc (.cells (vrow 5 Br.zero.at) 27)).heap[w.heap.size]? = some (.cells (vrow 5 a.at) 26) ∧ (W.alloc (.cells (vrow 5 Br.zero.at) 27)).heap[w.heap.size + 1]? = some (.cells (vrow 5 b.at) 26) ∧ (W.alloc (.cells (vrow 5 Br.zero.at) 27)).heap[b0]? = some (.cells (vrow 5 r.at) 27) ∧ (W.alloc (.cells (vrow 5 Br.zero.at) 27)).heap[b1]? = some (.cells (vrow 5 q.at) 27) := ⟨hH.1.alloc hH.1.size _, heap_past _ _ _ _ m0 hH.2.1, heap_past _ _ _ _ m1 hH.2.2.1, heap_past _ _ _ _ m2 hH.2.2.2.1, heap_past _ _ _ _ m3 hH.2.2.2.2⟩
        refine hK.out _ _ hH (fun hH => ?_)
        clear hK K
        (try simp only [Act.put, List.setIfInBounds_toArray, List.set_cons_succ, List.set_cons_zero])
        refine wpAnyH_at 3 #[true, true, true, true, true, true, true, true, true, true, true, false, false, false] (by kernel_rfl) (by kernel_rfl) ?_
        exact M3_11 (W.alloc (.cells (vrow 5 Br.zero.at) 27)) W.heap.size c1 hH V m0 m1 m2 m3 V1 n1_0 n1_1 n1_2 n1_3 (by omega)
    have M3_00 : ∀ (W : World), (Below w.heap.size w W ∧ W.heap[w.heap.size]? = some (.cells (vrow 5 a.at) 26) ∧ W.heap[w.heap.size + 1]? = some (.cells (vrow 5 b.at) 26) ∧ W.heap[b0]? = some (.cells (vrow 5 r.at) 27) ∧ W.heap[b1]? = some (.cells (vrow 5 q.at) 27)) → wpAnyH Try.prog .any O QQ SS 5 #[true, true, true, true, true, true, true, true, true, false, false, false, false, false] { tmps := #[.agg (vrow 5 a.at), .agg (vrow 5 b.at), .pointer (some ⟨w.heap.size, 0, none⟩), .pointer (some ⟨w.heap.size + 1, 0, none⟩), .bool false, .pointer (some ⟨b0, 0, none⟩), .pointer (some ⟨b1, 0, none⟩), .int .i64 c, undef, undef, undef, .tuple #[.agg (vrow 5 r.at), .agg (vrow 5 q.at), .int .i64 c], .agg (vrow 5 a.at), .agg (vrow 5 a.at), .agg (vrow 5 b.at), .agg (vrow 5 b.at), .tuple #[.agg (vrow 5 r.at), .agg (vrow 5 q.at), .int .i64 c], .agg (vrow 5 r.at), .agg (vrow 5 q.at), .int .i64 c, .tuple #[.agg (vrow 5 r.at), .agg (vrow 5 q.at), .int .i64 c], .agg (vrow 5 a.at), .agg (vrow 5 a.at), .agg (vrow 5 b.at), .agg (vrow 5 b.at), .tuple #[.agg (vrow 5 r.at), .agg (vrow 5 q.at), .int .i64 c], .agg (vrow 5 r.at), .agg (vrow 5 q.at), .int .i64 c, undef, undef, undef, undef, undef, undef, undef, undef, undef, undef, undef, undef, undef, undef, undef], defers := [] } W := by
      intro W hH
      subst hO hSS hQQ
      refine wpAnyH_ready (rs := [9, 10]) (by kernel_rfl) (by simp) (AllReadyH.cons rfl (fun K hK => ?_) (AllReadyH.cons rfl (fun K hK => ?_) AllReadyH.nil))
      · rw [if_pos (by rfl)]
        go_simp
        try simp only [sp_vrow]
        have V := heap_at W (.cells (vrow 5 Br.zero.at) 27) _ rfl
        have m0 := row_lt hH.2.1
        have m1 := row_lt hH.2.2.1
        have m2 := row_lt hH.2.2.2.1
        have m3 := row_lt hH.2.2.2.2
        replace hH : Below w.heap.size w (W.alloc (.cells (vrow 5 Br.zero.at) 27)) ∧ (W.alloc (.cells (vrow 5 Br.zero.at) 27)).heap[w.heap.size]? = some (.cells (vrow 5 a.at) 26) ∧ (W.alloc (.cells (vrow 5 Br.zero.at) 27)).heap[w.heap.size + 1]? = some (.cells (vrow 5 b.at) 26) ∧ (W.alloc (.cells (vrow 5 Br.zero.at) 27)).heap[b0]? = some (.cells (vrow 5 r.at) 27) ∧ (W.alloc (.cells (vrow 5 Br.zero.at) 27)).heap[b1]? = some (.cells (vrow 5 q.at) 27) := ⟨hH.1.alloc hH.1.size _, heap_past _ _ _ _ m0 hH.2.1, heap_past _ _ _ _ m1 hH.2.2.1, heap_past _ _ _ _ m2 hH.2.2.2.1, heap_past _ _ _ _ m3 hH.2.2.2.2⟩
        refine hK.out _ _ hH (fun hH => ?_)
        clear hK K
        (try simp only [Act.put, List.setIfInBounds_toArray, List.set_cons_succ, List.set_cons_zero])
        refine wpAnyH_at 4 #[true, true, true, true, true, true, true, true, true, true, false, false, false, false] (by kernel_rfl) (by kernel_rfl) ?_
        exact M3_10 (W.alloc (.cells (vrow 5 Br.zero.at) 27)) W.heap.size hH V m0 m1 m2 m3
      · rw [if_pos (by rfl)]
        go_simp
        try simp only [sp_vrow]
        have V := heap_at W (.cells (vrow 5 Br.zero.at) 27) _ rfl
        have m0 := row_lt hH.2.1
        have m1 := row_lt hH.2.2.1
        have m2 := row_lt hH.2.2.2.1
        have m3 := row_lt hH.2.2.2.2
        replace hH : Below w.heap.size w (W.alloc (.cells (vrow 5 Br.zero.at) 27)) ∧ (W.alloc (.cells (vrow 5 Br.zero.at) 27)).heap[w.heap.size]? = some (.cells (vrow 5 a.at) 26) ∧ (W.alloc (.cells (vrow 5 Br.zero.at) 27)).heap[w.heap.size + 1]? = some (.cells (vrow 5 b.at) 26) ∧ (W.alloc (.cells (vrow 5 Br.zero.at) 27)).heap[b0]? = some (.cells (vrow 5 r.at) 27) ∧ (W.alloc (.cells (vrow 5 Br.zero.at) 27)).heap[b1]? = some (.cells (vrow 5 q.at) 27) := ⟨hH.1.alloc hH.1.size _, heap_past _ _ _ _ m0 hH.2.1, heap_past _ _ _ _ m1 hH.2.2.1, heap_past _ _ _ _ m2 hH.2.2.2.1, heap_past _ _ _ _ m3 hH.2.2.2.2⟩
        refine hK.out _ _ hH (fun hH => ?_)
        clear hK K
        (try simp only [Act.put, List.setIfInBounds_toArray, List.set_cons_succ, List.set_cons_zero])
        refine wpAnyH_at 4 #[true, true, true, true, true, true, true, true, true, false, true, false, false, false] (by kernel_rfl) (by kernel_rfl) ?_
        exact M3_01 (W.alloc (.cells (vrow 5 Br.zero.at) 27)) W.heap.size hH V m0 m1 m2 m3
    have M2_11 : ∀ (W : World) (c0 : Nat) (c1 : Nat), (Below w.heap.size w W ∧ W.heap[w.heap.size]? = some (.cells (vrow 5 a.at) 26) ∧ W.heap[w.heap.size + 1]? = some (.cells (vrow 5 b.at) 26) ∧ W.heap[b0]? = some (.cells (vrow 5 r.at) 27) ∧ W.heap[b1]? = some (.cells (vrow 5 q.at) 27)) → W.heap[c0]? = some (.cells (vrow 5 Br.zero.at) 27) → w.heap.size < c0 → w.heap.size + 1 < c0 → b0 < c0 → b1 < c0 → W.heap[c1]? = some (.cells (vrow 5 Br.zero.at) 27) → w.heap.size < c1 → w.heap.size + 1 < c1 → b0 < c1 → b1 < c1 → c0 ≠ c1 → wpAnyH Try.prog .any O QQ SS 8 #[true, true, true, true, false, false, false, false, false, true, true, false, false, false] { tmps := #[.agg (vrow 5 a.at), .agg (vrow 5 b.at), .pointer (some ⟨w.heap.size, 0, none⟩), .pointer (some ⟨w.heap.size + 1, 0, none⟩), .bool false, .pointer (some ⟨b0, 0, none⟩), .pointer (some ⟨b1, 0, none⟩), .int .i64 c, .pointer (some ⟨c0, 0, none⟩), .pointer (some ⟨c1, 0, none⟩), undef, .tuple #[.agg (vrow 5 r.at), .agg (vrow 5 q.at), .int .i64 c], .agg (vrow 5 a.at), .agg (vrow 5 a.at), .agg (vrow 5 b.at), .agg (vrow 5 b.at), .tuple #[.agg (vrow 5 r.at), .agg (vrow 5 q.at), .int .i64 c], .agg (vrow 5 r.at), .agg (vrow 5 q.at), .int .i64 c, undef, .agg (vrow 5 a.at), .agg (vrow 5 a.at), .agg (vrow 5 b.at), .agg (vrow 5 b.at), undef, undef, undef, undef, undef, undef, undef, undef, undef, undef, undef, undef, undef, undef, undef, undef, undef, undef, undef], defers := [] } W := by
      intro W c0 c1 hH V0 n0_0 n0_1 n0_2 n0_3 V1 n1_0 n1_1 n1_2 n1_3 d0_1
      subst hO hSS hQQ
      refine wpAnyH_ready (rs := [4]) (by kernel_rfl) (by simp) (AllReadyH.cons rfl (fun K hK => ?_) AllReadyH.nil)
      · rw [if_pos (by rfl)]
        go_simp
        go_at_call 8
        refine (HI.out _).mono ?_
        rintro o X ⟨rfl, hb⟩
        replace hH : Below w.heap.size w X ∧ X.heap[w.heap.size]? = some (.cells (vrow 5 a.at) 26) ∧ X.heap[w.heap.size + 1]? = some (.cells (vrow 5 b.at) 26) ∧ X.heap[b0]? = some (.cells (vrow 5 r.at) 27) ∧ X.heap[b1]? = some (.cells (vrow 5 q.at) 27) := ⟨hH.1.trans (hb.mono hH.1.size), row_next hb hH.2.1, row_next hb hH.2.2.1, row_next hb hH.2.2.2.1, row_next hb hH.2.2.2.2⟩
        replace V0 := row_next hb V0
        replace V1 := row_next hb V1
        clear hb
        refine hK.out _ _ hH (fun hH => ?_)
        clear hK K
        (try simp only [Act.put, List.setIfInBounds_toArray, List.set_cons_succ, List.set_cons_zero])
        refine wpAnyH_take (i := 5) (v := (.tuple #[.agg (vrow 5 r.at), .agg (vrow 5 q.at), .int .i64 c])) rfl (by kernel_rfl) (by kernel_rfl) (by kernel_rfl) (fun _ _ _ h => by cases h.1) (.inl ⟨by rfl, fun w _ => by go_simp⟩) hH ?_
        (try simp only [Act.put, List.setIfInBounds_toArray, List.set_cons_succ, List.set_cons_zero])
        refine wpAnyH_take (i := 6) (v := (.agg (vrow 5 r.at))) rfl (by kernel_rfl) (by kernel_rfl) (by kernel_rfl) (fun _ _ _ h => by cases h.1) (.inl ⟨by rfl, fun w _ => by go_simp⟩) hH ?_
        (try simp only [Act.put, List.setIfInBounds_toArray, List.set_cons_succ, List.set_cons_zero])
        refine wpAnyH_take (i := 7) (v := (.agg (vrow 5 q.at))) rfl (by kernel_rfl) (by kernel_rfl) (by kernel_rfl) (fun _ _ _ h => by cases h.1) (.inl ⟨by rfl, fun w _ => by go_simp⟩) hH ?_
        (try simp only [Act.put, List.setIfInBounds_toArray, List.set_cons_succ, List.set_cons_zero])
        refine wpAnyH_take (i := 8) (v := (.int .i64 c)) rfl (by kernel_rfl) (by kernel_rfl) (by kernel_rfl) (fun _ _ _ h => by cases h.1) (.inl ⟨by rfl, fun w _ => by go_simp⟩) hH ?_
        (try simp only [Act.put, List.setIfInBounds_toArray, List.set_cons_succ, List.set_cons_zero])
        refine wpAnyH_at 3 #[true, true, true, true, true, true, true, true, true, true, true, false, false, false] (by kernel_rfl) (by kernel_rfl) ?_
        exact M3_11 X c0 c1 hH V0 n0_0 n0_1 n0_2 n0_3 V1 n1_0 n1_1 n1_2 n1_3 d0_1
    have M2_10 : ∀ (W : World) (c0 : Nat), (Below w.heap.size w W ∧ W.heap[w.heap.size]? = some (.cells (vrow 5 a.at) 26) ∧ W.heap[w.heap.size + 1]? = some (.cells (vrow 5 b.at) 26) ∧ W.heap[b0]? = some (.cells (vrow 5 r.at) 27) ∧ W.heap[b1]? = some (.cells (vrow 5 q.at) 27)) → W.heap[c0]? = some (.cells (vrow 5 Br.zero.at) 27) → w.heap.size < c0 → w.heap.size + 1 < c0 → b0 < c0 → b1 < c0 → wpAnyH Try.prog .any O QQ SS 9 #[true, true, true, true, false, false, false, false, false, true, false, false, false, false] { tmps := #[.agg (vrow 5 a.at), .agg (vrow 5 b.at), .pointer (some ⟨w.heap.size, 0, none⟩), .pointer (some ⟨w.heap.size + 1, 0, none⟩), .bool false, .pointer (some ⟨b0, 0, none⟩), .pointer (some ⟨b1, 0, none⟩), .int .i64 c, .pointer (some ⟨c0, 0, none⟩), undef, undef, .tuple #[.agg (vrow 5 r.at), .agg (vrow 5 q.at), .int .i64 c], .agg (vrow 5 a.at), .agg (vrow 5 a.at), .agg (vrow 5 b.at), .agg (vrow 5 b.at), .tuple #[.agg (vrow 5 r.at), .agg (vrow 5 q.at), .int .i64 c], .agg (vrow 5 r.at), .agg (vrow 5 q.at), .int .i64 c, undef, .agg (vrow 5 a.at), .agg (vrow 5 a.at), .agg (vrow 5 b.at), .agg (vrow 5 b.at), undef, undef, undef, undef, undef, undef, undef, undef, undef, undef, undef, undef, undef, undef, undef, undef, undef, undef, undef], defers := [] } W := by
      intro W c0 hH V0 n0_0 n0_1 n0_2 n0_3
      subst hO hSS hQQ
      refine wpAnyH_ready (rs := [4, 10]) (by kernel_rfl) (by simp) (AllReadyH.cons rfl (fun K hK => ?_) (AllReadyH.cons rfl (fun K hK => ?_) AllReadyH.nil))
      · rw [if_pos (by rfl)]
        go_simp
        go_at_call 8
        refine (HI.out _).mono ?_
        rintro o X ⟨rfl, hb⟩
        replace hH : Below w.heap.size w X ∧ X.heap[w.heap.size]? = some (.cells (vrow 5 a.at) 26) ∧ X.heap[w.heap.size + 1]? = some (.cells (vrow 5 b.at) 26) ∧ X.heap[b0]? = some (.cells (vrow 5 r.at) 27) ∧ X.heap[b1]? = some (.cells (vrow 5 q.at) 27) := ⟨hH.1.trans (hb.mono hH.1.size), row_next hb hH.2.1, row_next hb hH.2.2.1, row_next hb hH.2.2.2.1, row_next hb hH.2.2.2.2⟩
        replace V0 := row_next hb V0
        clear hb
        refine hK.out _ _ hH (fun hH => ?_)
        clear hK K
        (try simp only [Act.put, List.setIfInBounds_toArray, List.set_cons_succ, List.set_cons_zero])
        refine wpAnyH_take (i := 5) (v := (.tuple #[.agg (vrow 5 r.at), .agg (vrow 5 q.at), .int .i64 c])) rfl (by kernel_rfl) (by kernel_rfl) (by kernel_rfl) (fun _ _ _ h => by cases h.1) (.inl ⟨by rfl, fun w _ => by go_simp⟩) hH ?_
        (try simp only [Act.put, List.setIfInBounds_toArray, List.set_cons_succ, List.set_cons_zero])
        refine wpAnyH_take (i := 6) (v := (.agg (vrow 5 r.at))) rfl (by kernel_rfl) (by kernel_rfl) (by kernel_rfl) (fun _ _ _ h => by cases h.1) (.inl ⟨by rfl, fun w _ => by go_simp⟩) hH ?_
        (try simp only [Act.put, List.setIfInBounds_toArray, List.set_cons_succ, List.set_cons_zero])
        refine wpAnyH_take (i := 7) (v := (.agg (vrow 5 q.at))) rfl (by kernel_rfl) (by kernel_rfl) (by kernel_rfl) (fun _ _ _ h => by cases h.1) (.inl ⟨by rfl, fun w _ => by go_simp⟩) hH ?_
        (try simp only [Act.put, List.setIfInBounds_toArray, List.set_cons_succ, List.set_cons_zero])
        refine wpAnyH_take (i := 8) (v := (.int .i64 c)) rfl (by kernel_rfl) (by kernel_rfl) (by kernel_rfl) (fun _ _ _ h => by cases h.1) (.inl ⟨by rfl, fun w _ => by go_simp⟩) hH ?_
        (try simp only [Act.put, List.setIfInBounds_toArray, List.set_cons_succ, List.set_cons_zero])
        refine wpAnyH_at 4 #[true, true, true, true, true, true, true, true, true, true, false, false, false, false] (by kernel_rfl) (by kernel_rfl) ?_
        exact M3_10 X c0 hH V0 n0_0 n0_1 n0_2 n0_3
      · rw [if_pos (by rfl)]
        go_simp
        try simp only [sp_vrow]
        have V := heap_at W (.cells (vrow 5 Br.zero.at) 27) _ rfl
        have m0 := row_lt hH.2.1
        have m1 := row_lt hH.2.2.1
        have m2 := row_lt hH.2.2.2.1
        have m3 := row_lt hH.2.2.2.2
        have mm0 := row_lt V0
        replace V0 := heap_past _ (.cells (vrow 5 Br.zero.at) 27) _ _ mm0 V0
        replace hH : Below w.heap.size w (W.alloc (.cells (vrow 5 Br.zero.at) 27)) ∧ (W.alloc (.cells (vrow 5 Br.zero.at) 27)).heap[w.heap.size]? = some (.cells (vrow 5 a.at) 26) ∧ (W.alloc (.cells (vrow 5 Br.zero.at) 27)).heap[w.heap.size + 1]? = some (.cells (vrow 5 b.at) 26) ∧ (W.alloc (.cells (vrow 5 Br.zero.at) 27)).heap[b0]? = some (.cells (vrow 5 r.at) 27) ∧ (W.alloc (.cells (vrow 5 Br.zero.at) 27)).heap[b1]? = some (.cells (vrow 5 q.at) 27) := ⟨hH.1.alloc hH.1.size _, heap_past _ _ _ _ m0 hH.2.1, heap_past _ _ _ _ m1 hH.2.2.1, heap_past _ _ _ _ m2 hH.2.2.2.1, heap_past _ _ _ _ m3 hH.2.2.2.2⟩
        refine hK.out _ _ hH (fun hH => ?_)
        clear hK K
        (try simp only [Act.put, List.setIfInBounds_toArray, List.set_cons_succ, List.set_cons_zero])
        refine wpAnyH_at 8 #[true, true, true, true, false, false, false, false, false, true, true, false, false, false] (by kernel_rfl) (by kernel_rfl) ?_
        exact M2_11 (W.alloc (.cells (vrow 5 Br.zero.at) 27)) c0 W.heap.size hH V0 n0_0 n0_1 n0_2 n0_3 V m0 m1 m2 m3 (by omega)
    have M2_01 : ∀ (W : World) (c1 : Nat), (Below w.heap.size w W ∧ W.heap[w.heap.size]? = some (.cells (vrow 5 a.at) 26) ∧ W.heap[w.heap.size + 1]? = some (.cells (vrow 5 b.at) 26) ∧ W.heap[b0]? = some (.cells (vrow 5 r.at) 27) ∧ W.heap[b1]? = some (.cells (vrow 5 q.at) 27)) → W.heap[c1]? = some (.cells (vrow 5 Br.zero.at) 27) → w.heap.size < c1 → w.heap.size + 1 < c1 → b0 < c1 → b1 < c1 → wpAnyH Try.prog .any O QQ SS 9 #[true, true, true, true, false, false, false, false, false, false, true, false, false, false] { tmps := #[.agg (vrow 5 a.at), .agg (vrow 5 b.at), .pointer (some ⟨w.heap.size, 0, none⟩), .pointer (some ⟨w.heap.size + 1, 0, none⟩), .bool false, .pointer (some ⟨b0, 0, none⟩), .pointer (some ⟨b1, 0, none⟩), .int .i64 c, undef, .pointer (some ⟨c1, 0, none⟩), undef, .tuple #[.agg (vrow 5 r.at), .agg (vrow 5 q.at), .int .i64 c], .agg (vrow 5 a.at), .agg (vrow 5 a.at), .agg (vrow 5 b.at), .agg (vrow 5 b.at), .tuple #[.agg (vrow 5 r.at), .agg (vrow 5 q.at), .int .i64 c], .agg (vrow 5 r.at), .agg (vrow 5 q.at), .int .i64 c, undef, .agg (vrow 5 a.at), .agg (vrow 5 a.at), .agg (vrow 5 b.at), .agg (vrow 5 b.at), undef, undef, undef, undef, undef, undef, undef, undef, undef, undef, undef, undef, undef, undef, undef, undef, undef, undef, undef], defers := [] } W := by
      intro W c1 hH V1 n1_0 n1_1 n1_2 n1_3
      subst hO hSS hQQ
      refine wpAnyH_ready (rs := [4, 9]) (by kernel_rfl) (by simp) (AllReadyH.cons rfl (fun K hK => ?_) (AllReadyH.cons rfl (fun K hK => ?_) AllReadyH.nil))
      · rw [if_pos (by rfl)]
        go_simp
        go_at_call 8
        refine (HI.out _).mono ?_
        rintro o X ⟨rfl, hb⟩
        replace hH : Below w.heap.size w X ∧ X.heap[w.heap.size]? = some (.cells (vrow 5 a.at) 26) ∧ X.heap[w.heap.size + 1]? = some (.cells (vrow 5 b.at) 26) ∧ X.heap[b0]? = some (.cells (vrow 5 r.at) 27) ∧ X.heap[b1]? = some (.cells (vrow 5 q.at) 27) := ⟨hH.1.trans (hb.mono hH.1.size), row_next hb hH.2.1, row_next hb hH.2.2.1, row_next hb hH.2.2.2.1, row_next hb hH.2.2.2.2⟩
        replace V1 := row_next hb V1
        clear hb
        refine hK.out _ _ hH (fun hH => ?_)
        clear hK K
        (try simp only [Act.put, List.setIfInBounds_toArray, List.set_cons_succ, List.set_cons_zero])
        refine wpAnyH_take (i := 5) (v := (.tuple #[.agg (vrow 5 r.at), .agg (vrow 5 q.at), .int .i64 c])) rfl (by kernel_rfl) (by kernel_rfl) (by kernel_rfl) (fun _ _ _ h => by cases h.1) (.inl ⟨by rfl, fun w _ => by go_simp⟩) hH ?_
        (try simp only [Act.put, List.setIfInBounds_toArray, List.set_cons_succ, List.set_cons_zero])
        refine wpAnyH_take (i := 6) (v := (.agg (vrow 5 r.at))) rfl (by kernel_rfl) (by kernel_rfl) (by kernel_rfl) (fun _ _ _ h => by cases h.1) (.inl ⟨by rfl, fun w _ => by go_simp⟩) hH ?_
        (try simp only [Act.put, List.setIfInBounds_toArray, List.set_cons_succ, List.set_cons_zero])
        refine wpAnyH_take (i := 7) (v := (.agg (vrow 5 q.at))) rfl (by kernel_rfl) (by kernel_rfl) (by kernel_rfl) (fun _ _ _ h => by cases h.1) (.inl ⟨by rfl, fun w _ => by go_simp⟩) hH ?_
        (try simp only [Act.put, List.setIfInBounds_toArray, List.set_cons_succ, List.set_cons_zero])
        refine wpAnyH_take (i := 8) (v := (.int .i64 c)) rfl (by kernel_rfl) (by kernel_rfl) (by kernel_rfl) (fun _ _ _ h => by cases h.1) (.inl ⟨by rfl, fun w _ => by go_simp⟩) hH ?_
        (try simp only [Act.put, List.setIfInBounds_toArray, List.set_cons_succ, List.set_cons_zero])
        refine wpAnyH_at 4 #[true, true, true, true, true, true, true, true, true, false, true, false, false, false] (by kernel_rfl) (by kernel_rfl) ?_
        exact M3_01 X c1 hH V1 n1_0 n1_1 n1_2 n1_3
      · rw [if_pos (by rfl)]
        go_simp
        try simp only [sp_vrow]
        have V := heap_at W (.cells (vrow 5 Br.zero.at) 27) _ rfl
        have m0 := row_lt hH.2.1
        have m1 := row_lt hH.2.2.1
        have m2 := row_lt hH.2.2.2.1
        have m3 := row_lt hH.2.2.2.2
        have mm1 := row_lt V1
        replace V1 := heap_past _ (.cells (vrow 5 Br.zero.at) 27) _ _ mm1 V1
        replace hH : Below w.heap.size w (W.alloc (.cells (vrow 5 Br.zero.at) 27)) ∧ (W.alloc (.cells (vrow 5 Br.zero.at) 27)).heap[w.heap.size]? = some (.cells (vrow 5 a.at) 26) ∧ (W.alloc (.cells (vrow 5 Br.zero.at) 27)).heap[w.heap.size + 1]? = some (.cells (vrow 5 b.at) 26) ∧ (W.alloc (.cells (vrow 5 Br.zero.at) 27)).heap[b0]? = some (.cells (vrow 5 r.at) 27) ∧ (W.alloc (.cells (vrow 5 Br.zero.at) 27)).heap[b1]? = some (.cells (vrow 5 q.at) 27) := ⟨hH.1.alloc hH.1.size _, heap_past _ _ _ _ m0 hH.2.1, heap_past _ _ _ _ m1 hH.2.2.1, heap_past _ _ _ _ m2 hH.2.2.2.1, heap_past _ _ _ _ m3 hH.2.2.2.2⟩
        refine hK.out _ _ hH (fun hH => ?_)
        clear hK K
        (try simp only [Act.put, List.setIfInBounds_toArray, List.set_cons_succ, List.set_cons_zero])
        refine wpAnyH_at 8 #[true, true, true, true, false, false, false, false, false, true, true, false, false, false] (by kernel_rfl) (by kernel_rfl) ?_
        exact M2_11 (W.alloc (.cells (vrow 5 Br.zero.at) 27)) W.heap.size c1 hH V m0 m1 m2 m3 V1 n1_0 n1_1 n1_2 n1_3 (by omega)
    have M2_00 : ∀ (W : World), (Below w.heap.size w W ∧ W.heap[w.heap.size]? = some (.cells (vrow 5 a.at) 26) ∧ W.heap[w.heap.size + 1]? = some (.cells (vrow 5 b.at) 26) ∧ W.heap[b0]? = some (.cells (vrow 5 r.at) 27) ∧ W.heap[b1]? = some (.cells (vrow 5 q.at) 27)) → wpAnyH Try.prog .any O QQ SS 10 #[true, true, true, true, false, false, false, false, false, false, false, false, false, false] { tmps := #[.agg (vrow 5 a.at), .agg (vrow 5 b.at), .pointer (some ⟨w.heap.size, 0, none⟩), .pointer (some ⟨w.heap.size + 1, 0, none⟩), .bool false, .pointer (some ⟨b0, 0, none⟩), .pointer (some ⟨b1, 0, none⟩), .int .i64 c, undef, undef, undef, .tuple #[.agg (vrow 5 r.at), .agg (vrow 5 q.at), .int .i64 c], .agg (vrow 5 a.at), .agg (vrow 5 a.at), .agg (vrow 5 b.at), .agg (vrow 5 b.at), .tuple #[.agg (vrow 5 r.at), .agg (vrow 5 q.at), .int .i64 c], .agg (vrow 5 r.at), .agg (vrow 5 q.at), .int .i64 c, undef, .agg (vrow 5 a.at), .agg (vrow 5 a.at), .agg (vrow 5 b.at), .agg (vrow 5 b.at), undef, undef, undef, undef, undef, undef, undef, undef, undef, undef, undef, undef, undef, undef, undef, undef, undef, undef, undef], defers := [] } W := by
      intro W hH
      subst hO hSS hQQ
      refine wpAnyH_ready (rs := [4, 9, 10]) (by kernel_rfl) (by simp) (AllReadyH.cons rfl (fun K hK => ?_) (AllReadyH.cons rfl (fun K hK => ?_) (AllReadyH.cons rfl (fun K hK => ?_) AllReadyH.nil)))
      · rw [if_pos (by rfl)]
        go_simp
        go_at_call 8
        refine (HI.out _).mono ?_
        rintro o X ⟨rfl, hb⟩
        replace hH : Below w.heap.size w X ∧ X.heap[w.heap.size]? = some (.cells (vrow 5 a.at) 26) ∧ X.heap[w.heap.size + 1]? = some (.cells (vrow 5 b.at) 26) ∧ X.heap[b0]? = some (.cells (vrow 5 r.at) 27) ∧ X.heap[b1]? = some (.cells (vrow 5 q.at) 27) := ⟨hH.1.trans (hb.mono hH.1.size), row_next hb hH.2.1, row_next hb hH.2.2.1, row_next hb hH.2.2.2.1, row_next hb hH.2.2.2.2⟩
        clear hb
        refine hK.out _ _ hH (fun hH => ?_)
        clear hK K
        (try simp only [Act.put, List.setIfInBounds_toArray, List.set_cons_succ, List.set_cons_zero])
        refine wpAnyH_take (i := 5) (v := (.tuple #[.agg (vrow 5 r.at), .agg (vrow 5 q.at), .int .i64 c])) rfl (by kernel_rfl) (by kernel_rfl) (by kernel_rfl) (fun _ _ _ h => by cases h.1) (.inl ⟨by rfl, fun w _ => by go_simp⟩) hH ?_
        (try simp only [Act.put, List.setIfInBounds_toArray, List.set_cons_succ, List.set_cons_zero])
        refine wpAnyH_take (i := 6) (v := (.agg (vrow 5 r.at))) rfl (by kernel_rfl) (by kernel_rfl) (by kernel_rfl) (fun _ _ _ h => by cases h.1) (.inl ⟨by rfl, fun w _ => by go_simp⟩) hH ?_
        (try simp only [Act.put, List.setIfInBounds_toArray, List.set_cons_succ, List.set_cons_zero])
        refine wpAnyH_take (i := 7) (v := (.agg (vrow 5 q.at))) rfl (by kernel_rfl) (by kernel_rfl) (by kernel_rfl) (fun _ _ _ h => by cases h.1) (.inl ⟨by rfl, fun w _ => by go_simp⟩) hH ?_
        (try simp only [Act.put, List.setIfInBounds_toArray, List.set_cons_succ, List.set_cons_zero])
        refine wpAnyH_take (i := 8) (v := (.int .i64 c)) rfl (by kernel_rfl) (by kernel_rfl) (by kernel_rfl) (fun _ _ _ h => by cases h.1) (.inl ⟨by rfl, fun w _ => by go_simp⟩) hH ?_
        (try simp only [Act.put, List.setIfInBounds_toArray, List.set_cons_succ, List.set_cons_zero])
        refine wpAnyH_at 5 #[true, true, true, true, true, true, true, true, true, false, false, false, false, false] (by kernel_rfl) (by kernel_rfl) ?_
        exact M3_00 X  hH
      · rw [if_pos (by rfl)]
        go_simp
        try simp only [sp_vrow]
        have V := heap_at W (.cells (vrow 5 Br.zero.at) 27) _ rfl
        have m0 := row_lt hH.2.1
        have m1 := row_lt hH.2.2.1
        have m2 := row_lt hH.2.2.2.1
        have m3 := row_lt hH.2.2.2.2
        replace hH : Below w.heap.size w (W.alloc (.cells (vrow 5 Br.zero.at) 27)) ∧ (W.alloc (.cells (vrow 5 Br.zero.at) 27)).heap[w.heap.size]? = some (.cells (vrow 5 a.at) 26) ∧ (W.alloc (.cells (vrow 5 Br.zero.at) 27)).heap[w.heap.size + 1]? = some (.cells (vrow 5 b.at) 26) ∧ (W.alloc (.cells (vrow 5 Br.zero.at) 27)).heap[b0]? = some (.cells (vrow 5 r.at) 27) ∧ (W.alloc (.cells (vrow 5 Br.zero.at) 27)).heap[b1]? = some (.cells (vrow 5 q.at) 27) := ⟨hH.1.alloc hH.1.size _, heap_past _ _ _ _ m0 hH.2.1, heap_past _ _ _ _ m1 hH.2.2.1, heap_past _ _ _ _ m2 hH.2.2.2.1, heap_past _ _ _ _ m3 hH.2.2.2.2⟩
        refine hK.out _ _ hH (fun hH => ?_)
        clear hK K
        (try simp only [Act.put, List.setIfInBounds_toArray, List.set_cons_succ, List.set_cons_zero])
        refine wpAnyH_at 9 #[true, true, true, true, false, false, false, false, false, true, false, false, false, false] (by kernel_rfl) (by kernel_rfl) ?_
        exact M2_10 (W.alloc (.cells (vrow 5 Br.zero.at) 27)) W.heap.size hH V m0 m1 m2 m3
      · rw [if_pos (by rfl)]
        go_simp
        try simp only [sp_vrow]
        have V := heap_at W (.cells (vrow 5 Br.zero.at) 27) _ rfl
        have m0 := row_lt hH.2.1
        have m1 := row_lt hH.2.2.1
        have m2 := row_lt hH.2.2.2.1
        have m3 := row_lt hH.2.2.2.2
        replace hH : Below w.heap.size w (W.alloc (.cells (vrow 5 Br.zero.at) 27)) ∧ (W.alloc (.cells (vrow 5 Br.zero.at) 27)).heap[w.heap.size]? = some (.cells (vrow 5 a.at) 26) ∧ (W.alloc (.cells (vrow 5 Br.zero.at) 27)).heap[w.heap.size + 1]? = some (.cells (vrow 5 b.at) 26) ∧ (W.alloc (.cells (vrow 5 Br.zero.at) 27)).heap[b0]? = some (.cells (vrow 5 r.at) 27) ∧ (W.alloc (.cells (vrow 5 Br.zero.at) 27)).heap[b1]? = some (.cells (vrow 5 q.at) 27) := ⟨hH.1.alloc hH.1.size _, heap_past _ _ _ _ m0 hH.2.1, heap_past _ _ _ _ m1 hH.2.2.1, heap_past _ _ _ _ m2 hH.2.2.2.1, heap_past _ _ _ _ m3 hH.2.2.2.2⟩
        refine hK.out _ _ hH (fun hH => ?_)
        clear hK K
        (try simp only [Act.put, List.setIfInBounds_toArray, List.set_cons_succ, List.set_cons_zero])
        refine wpAnyH_at 9 #[true, true, true, true, false, false, false, false, false, false, true, false, false, false] (by kernel_rfl) (by kernel_rfl) ?_
        exact M2_01 (W.alloc (.cells (vrow 5 Br.zero.at) 27)) W.heap.size hH V m0 m1 m2 m3
    have M1_11 : ∀ (W : World) (c0 : Nat) (c1 : Nat), (Below w.heap.size w W ∧ W.heap[w.heap.size]? = some (.cells (vrow 5 a.at) 26) ∧ W.heap[w.heap.size + 1]? = some (.cells (vrow 5 b.at) 26) ∧ W.heap[b0]? = some (.cells (vrow 5 r.at) 27) ∧ W.heap[b1]? = some (.cells (vrow 5 q.at) 27)) → W.heap[c0]? = some (.cells (vrow 5 Br.zero.at) 27) → w.heap.size < c0 → w.heap.size + 1 < c0 → b0 < c0 → b1 < c0 → W.heap[c1]? = some (.cells (vrow 5 Br.zero.at) 27) → w.heap.size < c1 → w.heap.size + 1 < c1 → b0 < c1 → b1 < c1 → c0 ≠ c1 → wpAnyH Try.prog .any O QQ SS 9 #[true, true, true, false, false, false, false, false, false, true, true, false, false, false] { tmps := #[.agg (vrow 5 a.at), .agg (vrow 5 b.at), .pointer (some ⟨w.heap.size, 0, none⟩), .pointer (some ⟨w.heap.size + 1, 0, none⟩), .bool false, .pointer (some ⟨b0, 0, none⟩), .pointer (some ⟨b1, 0, none⟩), .int .i64 c, .pointer (some ⟨c0, 0, none⟩), .pointer (some ⟨c1, 0, none⟩), undef, .tuple #[.agg (vrow 5 r.at), .agg (vrow 5 q.at), .int .i64 c], .agg (vrow 5 a.at), .agg (vrow 5 a.at), .agg (vrow 5 b.at), .agg (vrow 5 b.at), .tuple #[.agg (vrow 5 r.at), .agg (vrow 5 q.at), .int .i64 c], .agg (vrow 5 r.at), .agg (vrow 5 q.at), .int .i64 c, undef, .agg (vrow 5 a.at), .agg (vrow 5 a.at), .agg (vrow 5 b.at), undef, undef, undef, undef, undef, undef, undef, undef, undef, undef, undef, undef, undef, undef, undef, undef, undef, undef, undef, undef], defers := [] } W := by
      intro W c0 c1 hH V0 n0_0 n0_1 n0_2 n0_3 V1 n1_0 n1_1 n1_2 n1_3 d0_1
      subst hO hSS hQQ
      refine wpAnyH_ready (rs := [3]) (by kernel_rfl) (by simp) (AllReadyH.cons rfl (fun K hK => ?_) AllReadyH.nil)
      · rw [if_pos (by rfl)]
        go_simp
        go_at_call 7
        refine (HT1.out _).mono ?_
        rintro o X ⟨rfl, hb⟩
        replace hH : Below w.heap.size w X ∧ X.heap[w.heap.size]? = some (.cells (vrow 5 a.at) 26) ∧ X.heap[w.heap.size + 1]? = some (.cells (vrow 5 b.at) 26) ∧ X.heap[b0]? = some (.cells (vrow 5 r.at) 27) ∧ X.heap[b1]? = some (.cells (vrow 5 q.at) 27) := ⟨hH.1.trans (hb.mono hH.1.size), row_next hb hH.2.1, row_next hb hH.2.2.1, row_next hb hH.2.2.2.1, row_next hb hH.2.2.2.2⟩
        replace V0 := row_next hb V0
        replace V1 := row_next hb V1
        clear hb
        refine hK.out _ _ hH (fun hH => ?_)
        clear hK K
        (try simp only [Act.put, List.setIfInBounds_toArray, List.set_cons_succ, List.set_cons_zero])
        refine wpAnyH_at 8 #[true, true, true, true, false, false, false, false, false, true, true, false, false, false] (by kernel_rfl) (by kernel_rfl) ?_
        exact M2_11 X c0 c1 hH V0 n0_0 n0_1 n0_2 n0_3 V1 n1_0 n1_1 n1_2 n1_3 d0_1
    have M1_10 : ∀ (W : World) (c0 : Nat), (Below w.heap.size w W ∧ W.heap[w.heap.size]? = some (.cells (vrow 5 a.at) 26) ∧ W.heap[w.heap.size + 1]? = some (.cells (vrow 5 b.at) 26) ∧ W.heap[b0]? = some (.cells (vrow 5 r.at) 27) ∧ W.heap[b1]? = some (.cells (vrow 5 q.at) 27)) → W.heap[c0]? = some (.cells (vrow 5 Br.zero.at) 27) → w.heap.size < c0 → w.heap.size + 1 < c0 → b0 < c0 → b1 < c0 → wpAnyH Try.prog .any O QQ SS 10 #[true, true, true, false, false, false, false, false, false, true, false, false, false, false] { tmps := #[.agg (vrow 5 a.at), .agg (vrow 5 b.at), .pointer (some ⟨w.heap.size, 0, none⟩), .pointer (some ⟨w.heap.size + 1, 0, none⟩), .bool false, .pointer (some ⟨b0, 0, none⟩), .pointer (some ⟨b1, 0, none⟩), .int .i64 c, .pointer (some ⟨c0, 0, none⟩), undef, undef, .tuple #[.agg (vrow 5 r.at), .agg (vrow 5 q.at), .int .i64 c], .agg (vrow 5 a.at), .agg (vrow 5 a.at), .agg (vrow 5 b.at), .agg (vrow 5 b.at), .tuple #[.agg (vrow 5 r.at), .agg (vrow 5 q.at), .int .i64 c], .agg (vrow 5 r.at), .agg (vrow 5 q.at), .int .i64 c, undef, .agg (vrow 5 a.at), .agg (vrow 5 a.at), .agg (vrow 5 b.at), undef, undef, undef, undef, undef, undef, undef, undef, undef, undef, undef, undef, undef, undef, undef, undef, undef, undef, undef, undef], defers := [] } W := by
      intro W c0 hH V0 n0_0 n0_1 n0_2 n0_3
      subst hO hSS hQQ
      refine wpAnyH_ready (rs := [3, 10]) (by kernel_rfl) (by simp) (AllReadyH.cons rfl (fun K hK => ?_) (AllReadyH.cons rfl (fun K hK => ?_) AllReadyH.nil))
      · rw [if_pos (by rfl)]
        go_simp
        go_at_call 7
        refine (HT1.out _).mono ?_
        rintro o X ⟨rfl, hb⟩
        replace hH : Below w.heap.size w X ∧ X.heap[w.heap.size]? = some (.cells (vrow 5 a.at) 26) ∧ X.heap[w.heap.size + 1]? = some (.cells (vrow 5 b.at) 26) ∧ X.heap[b0]? = some (.cells (vrow 5 r.at) 27) ∧ X.heap[b1]? = some (.cells (vrow 5 q.at) 27) := ⟨hH.1.trans (hb.mono hH.1.size), row_next hb hH.2.1, row_next hb hH.2.2.1, row_next hb hH.2.2.2.1, row_next hb hH.2.2.2.2⟩
        replace V0 := row_next hb V0
        clear hb
        refine hK.out _ _ hH (fun hH => ?_)
        clear hK K
        (try simp only [Act.put, List.setIfInBounds_toArray, List.set_cons_succ, List.set_cons_zero])
        refine wpAnyH_at 9 #[true, true, true, true, false, false, false, false, false, true, false, false, false, false] (by kernel_rfl) (by kernel_rfl) ?_
        exact M2_10 X c0 hH V0 n0_0 n0_1 n0_2 n0_3
      · rw [if_pos (by rfl)]
        go_simp
        try simp only [sp_vrow]
        have V := heap_at W (.cells (vrow 5 Br.zero.at) 27) _ rfl
        have m0 := row_lt hH.2.1
        have m1 := row_lt hH.2.2.1
        have m2 := row_lt hH.2.2.2.1
        have m3 := row_lt hH.2.2.2.2
        have mm0 := row_lt V0
        replace V0 := heap_past _ (.cells (vrow 5 Br.zero.at) 27) _ _ mm0 V0
        replace hH : Below w.heap.size w (W.alloc (.cells (vrow 5 Br.zero.at) 27)) ∧ (W.alloc (.cells (vrow 5 Br.zero.at) 27)).heap[w.heap.size]? = some (.cells (vrow 5 a.at) 26) ∧ (W.alloc (.cells (vrow 5 Br.zero.at) 27)).heap[w.heap.size + 1]? = some (.cells (vrow 5 b.at) 26) ∧ (W.alloc (.cells (vrow 5 Br.zero.at) 27)).heap[b0]? = some (.cells (vrow 5 r.at) 27) ∧ (W.alloc (.cells (vrow 5 Br.zero.at) 27)).heap[b1]? = some (.cells (vrow 5 q.at) 27) := ⟨hH.1.alloc hH.1.size _, heap_past _ _ _ _ m0 hH.2.1, heap_past _ _ _ _ m1 hH.2.2.1, heap_past _ _ _ _ m2 hH.2.2.2.1, heap_past _ _ _ _ m3 hH.2.2.2.2⟩
        refine hK.out _ _ hH (fun hH => ?_)
        clear hK K
        (try simp only [Act.put, List.setIfInBounds_toArray, List.set_cons_succ, List.set_cons_zero])
        refine wpAnyH_at 9 #[true, true, true, false, false, false, false, false, false, true, true, false, false, false] (by kernel_rfl) (by kernel_rfl) ?_
        exact M1_11 (W.alloc (.cells (vrow 5 Br.zero.at) 27)) c0 W.heap.size hH V0 n0_0 n0_1 n0_2 n0_3 V m0 m1 m2 m3 (by omega)
    have M1_01 : ∀ (W : World) (c1 : Nat), (Below w.heap.size w W ∧ W.heap[w.heap.size]? = some (.cells (vrow 5 a.at) 26) ∧ W.heap[w.heap.size + 1]? = some (.cells (vrow 5 b.at) 26) ∧ W.heap[b0]? = some (.cells (vrow 5 r.at) 27) ∧ W.heap[b1]? = some (.cells (vrow 5 q.at) 27)) → W.heap[c1]? = some (.cells (vrow 5 Br.zero.at) 27) → w.heap.size < c1 → w.heap.size + 1 < c1 → b0 < c1 → b1 < c1 → wpAnyH Try.prog .any O QQ SS 10 #[true, true, true, false, false, false, false, false, false, false, true, false, false, false] { tmps := #[.agg (vrow 5 a.at), .agg (vrow 5 b.at), .pointer (some ⟨w.heap.size, 0, none⟩), .pointer (some ⟨w.heap.size + 1, 0, none⟩), .bool false, .pointer (some ⟨b0, 0, none⟩), .pointer (some ⟨b1, 0, none⟩), .int .i64 c, undef, .pointer (some ⟨c1, 0, none⟩), undef, .tuple #[.agg (vrow 5 r.at), .agg (vrow 5 q.at), .int .i64 c], .agg (vrow 5 a.at), .agg (vrow 5 a.at), .agg (vrow 5 b.at), .agg (vrow 5 b.at), .tuple #[.agg (vrow 5 r.at), .agg (vrow 5 q.at), .int .i64 c], .agg (vrow 5 r.at), .agg (vrow 5 q.at), .int .i64 c, undef, .agg (vrow 5 a.at), .agg (vrow 5 a.at), .agg (vrow 5 b.at), undef, undef, undef, undef, undef, undef, undef, undef, undef, undef, undef, undef, undef, undef, undef, undef, undef, undef, undef, undef], defers := [] } W := by
      intro W c1 hH V1 n1_0 n1_1 n1_2 n1_3
      subst hO hSS hQQ
      refine wpAnyH_ready (rs := [3, 9]) (by kernel_rfl) (by simp) (AllReadyH.cons rfl (fun K hK => ?_) (AllReadyH.cons rfl (fun K hK => ?_) AllReadyH.nil))
      · rw [if_pos (by rfl)]
        go_simp
        go_at_call 7
        refine (HT1.out _).mono ?_
        rintro o X ⟨rfl, hb⟩
        replace hH : Below w.heap.size w X ∧ X.heap[w.heap.size]? = some (.cells (vrow 5 a.at) 26) ∧ X.heap[w.heap.size + 1]? = some (.cells (vrow 5 b.at) 26) ∧ X.heap[b0]? = some (.cells (vrow 5 r.at) 27) ∧ X.heap[b1]? = some (.cells (vrow 5 q.at) 27) := ⟨hH.1.trans (hb.mono hH.1.size), row_next hb hH.2.1, row_next hb hH.2.2.1, row_next hb hH.2.2.2.1, row_next hb hH.2.2.2.2⟩
        replace V1 := row_next hb V1
        clear hb
        refine hK.out _ _ hH (fun hH => ?_)
        clear hK K
        (try simp only [Act.put, List.setIfInBounds_toArray, List.set_cons_succ, List.set_cons_zero])
        refine wpAnyH_at 9 #[true, true, true, true, false, false, false, false, false, false, true, false, false, false] (by kernel_rfl) (by kernel_rfl) ?_
        exact M2_01 X c1 hH V1 n1_0 n1_1 n1_2 n1_3
      · rw [if_pos (by rfl)]
        go_simp
        try simp only [sp_vrow]
        have V := heap_at W (.cells (vrow 5 Br.zero.at) 27) _ rfl
        have m0 := row_lt hH.2.1
        have m1 := row_lt hH.2.2.1
        have m2 := row_lt hH.2.2.2.1
        have m3 := row_lt hH.2.2.2.2
        have mm1 := row_lt V1
        replace V1 := heap_past _ (.cells (vrow 5 Br.zero.at) 27) _ _ mm1 V1
        replace hH : Below w.heap.size w (W.alloc (.cells (vrow 5 Br.zero.at) 27)) ∧ (W.alloc (.cells (vrow 5 Br.zero.at) 27)).heap[w.heap.size]? = some (.cells (vrow 5 a.at) 26) ∧ (W.alloc (.cells (vrow 5 Br.zero.at) 27)).heap[w.heap.size + 1]? = some (.cells (vrow 5 b.at) 26) ∧ (W.alloc (.cells (vrow 5 Br.zero.at) 27)).heap[b0]? = some (.cells (vrow 5 r.at) 27) ∧ (W.alloc (.cells (vrow 5 Br.zero.at) 27)).heap[b1]? = some (.cells (vrow 5 q.at) 27) := ⟨hH.1.alloc hH.1.size _, heap_past _ _ _ _ m0 hH.2.1, heap_past _ _ _ _ m1 hH.2.2.1, heap_past _ _ _ _ m2 hH.2.2.2.1, heap_past _ _ _ _ m3 hH.2.2.2.2⟩
        refine hK.out _ _ hH (fun hH => ?_)
        clear hK K
        (try simp only [Act.put, List.setIfInBounds_toArray, List.set_cons_succ, List.set_cons_zero])
        refine wpAnyH_at 9 #[true, true, true, false, false, false, false, false, false, true, true, false, false, false] (by kernel_rfl) (by kernel_rfl) ?_
        exact M1_11 (W.alloc (.cells (vrow 5 Br.zero.at) 27)) W.heap.size c1 hH V m0 m1 m2 m3 V1 n1_0 n1_1 n1_2 n1_3 (by omega)
    have M1_00 : ∀ (W : World), (Below w.heap.size w W ∧ W.heap[w.heap.size]? = some (.cells (vrow 5 a.at) 26) ∧ W.heap[w.heap.size + 1]? = some (.cells (vrow 5 b.at) 26) ∧ W.heap[b0]? = some (.cells (vrow 5 r.at) 27) ∧ W.heap[b1]? = some (.cells (vrow 5 q.at) 27)) → wpAnyH Try.prog .any O QQ SS 11 #[true, true, true, false, false, false, false, false, false, false, false, false, false, false] { tmps := #[.agg (vrow 5 a.at), .agg (vrow 5 b.at), .pointer (some ⟨w.heap.size, 0, none⟩), .pointer (some ⟨w.heap.size + 1, 0, none⟩), .bool false, .pointer (some ⟨b0, 0, none⟩), .pointer (some ⟨b1, 0, none⟩), .int .i64 c, undef, undef, undef, .tuple #[.agg (vrow 5 r.at), .agg (vrow 5 q.at), .int .i64 c], .agg (vrow 5 a.at), .agg (vrow 5 a.at), .agg (vrow 5 b.at), .agg (vrow 5 b.at), .tuple #[.agg (vrow 5 r.at), .agg (vrow 5 q.at), .int .i64 c], .agg (vrow 5 r.at), .agg (vrow 5 q.at), .int .i64 c, undef, .agg (vrow 5 a.at), .agg (vrow 5 a.at), .agg (vrow 5 b.at), undef, undef, undef, undef, undef, undef, undef, undef, undef, undef, undef, undef, undef, undef, undef, undef, undef, undef, undef, undef], defers := [] } W := by
      intro W hH
      subst hO hSS hQQ
      refine wpAnyH_ready (rs := [3, 9, 10]) (by kernel_rfl) (by simp) (AllReadyH.cons rfl (fun K hK => ?_) (AllReadyH.cons rfl (fun K hK => ?_) (AllReadyH.cons rfl (fun K hK => ?_) AllReadyH.nil)))
      · rw [if_pos (by rfl)]
        go_simp
        go_at_call 7
        refine (HT1.out _).mono ?_
        rintro o X ⟨rfl, hb⟩
        replace hH : Below w.heap.size w X ∧ X.heap[w.heap.size]? = some (.cells (vrow 5 a.at) 26) ∧ X.heap[w.heap.size + 1]? = some (.cells (vrow 5 b.at) 26) ∧ X.heap[b0]? = some (.cells (vrow 5 r.at) 27) ∧ X.heap[b1]? = some (.cells (vrow 5 q.at) 27) := ⟨hH.1.trans (hb.mono hH.1.size), row_next hb hH.2.1, row_next hb hH.2.2.1, row_next hb hH.2.2.2.1, row_next hb hH.2.2.2.2⟩
        clear hb
        refine hK.out _ _ hH (fun hH => ?_)
        clear hK K
        (try simp only [Act.put, List.setIfInBounds_toArray, List.set_cons_succ, List.set_cons_zero])
        refine wpAnyH_at 10 #[true, true, true, true, false, false, false, false, false, false, false, false, false, false] (by kernel_rfl) (by kernel_rfl) ?_
        exact M2_00 X  hH
      · rw [if_pos (by rfl)]
        go_simp
        try simp only [sp_vrow]
        have V := heap_at W (.cells (vrow 5 Br.zero.at) 27) _ rfl
        have m0 := row_lt hH.2.1
        have m1 := row_lt hH.2.2.1
        have m2 := row_lt hH.2.2.2.1
        have m3 := row_lt hH.2.2.2.2
        replace hH : Below w.heap.size w (W.alloc (.cells (vrow 5 Br.zero.at) 27)) ∧ (W.alloc (.cells (vrow 5 Br.zero.at) 27)).heap[w.heap.size]? = some (.cells (vrow 5 a.at) 26) ∧ (W.alloc (.cells (vrow 5 Br.zero.at) 27)).heap[w.heap.size + 1]? = some (.cells (vrow 5 b.at) 26) ∧ (W.alloc (.cells (vrow 5 Br.zero.at) 27)).heap[b0]? = some (.cells (vrow 5 r.at) 27) ∧ (W.alloc (.cells (vrow 5 Br.zero.at) 27)).heap[b1]? = some (.cells (vrow 5 q.at) 27) := ⟨hH.1.alloc hH.1.size _, heap_past _ _ _ _ m0 hH.2.1, heap_past _ _ _ _ m1 hH.2.2.1, heap_past _ _ _ _ m2 hH.2.2.2.1, heap_past _ _ _ _ m3 hH.2.2.2.2⟩
        refine hK.out _ _ hH (fun hH => ?_)
        clear hK K
        (try simp only [Act.put, List.setIfInBounds_toArray, List.set_cons_succ, List.set_cons_zero])
        refine wpAnyH_at 10 #[true, true, true, false, false, false, false, false, false, true, false, false, false, false] (by kernel_rfl) (by kernel_rfl) ?_
        exact M1_10 (W.alloc (.cells (vrow 5 Br.zero.at) 27)) W.heap.size hH V m0 m1 m2 m3
      · rw [if_pos (by rfl)]
        go_simp
        try simp only [sp_vrow]
        have V := heap_at W (.cells (vrow 5 Br.zero.at) 27) _ rfl
        have m0 := row_lt hH.2.1
        have m1 := row_lt hH.2.2.1
        have m2 := row_lt hH.2.2.2.1
        have m3 := row_lt hH.2.2.2.2
        replace hH : Below w.heap.size w (W.alloc (.cells (vrow 5 Br.zero.at) 27)) ∧ (W.alloc (.cells (vrow 5 Br.zero.at) 27)).heap[w.heap.size]? = some (.cells (vrow 5 a.at) 26) ∧ (W.alloc (.cells (vrow 5 Br.zero.at) 27)).heap[w.heap.size + 1]? = some (.cells (vrow 5 b.at) 26) ∧ (W.alloc (.cells (vrow 5 Br.zero.at) 27)).heap[b0]? = some (.cells (vrow 5 r.at) 27) ∧ (W.alloc (.cells (vrow 5 Br.zero.at) 27)).heap[b1]? = some (.cells (vrow 5 q.at) 27) := ⟨hH.1.alloc hH.1.size _, heap_past _ _ _ _ m0 hH.2.1, heap_past _ _ _ _ m1 hH.2.2.1, heap_past _ _ _ _ m2 hH.2.2.2.1, heap_past _ _ _ _ m3 hH.2.2.2.2⟩
        refine hK.out _ _ hH (fun hH => ?_)
        clear hK K
        (try simp only [Act.put, List.setIfInBounds_toArray, List.set_cons_succ, List.set_cons_zero])
        refine wpAnyH_at 10 #[true, true, true, false, false, false, false, false, false, false, true, false, false, false] (by kernel_rfl) (by kernel_rfl) ?_
        exact M1_01 (W.alloc (.cells (vrow 5 Br.zero.at) 27)) W.heap.size hH V m0 m1 m2 m3
    have M0_11 : ∀ (W : World) (c0 : Nat) (c1 : Nat), (Below w.heap.size w W ∧ W.heap[w.heap.size]? = some (.cells (vrow 5 a.at) 26) ∧ W.heap[w.heap.size + 1]? = some (.cells (vrow 5 b.at) 26) ∧ W.heap[b0]? = some (.cells (vrow 5 r.at) 27) ∧ W.heap[b1]? = some (.cells (vrow 5 q.at) 27)) → W.heap[c0]? = some (.cells (vrow 5 Br.zero.at) 27) → w.heap.size < c0 → w.heap.size + 1 < c0 → b0 < c0 → b1 < c0 → W.heap[c1]? = some (.cells (vrow 5 Br.zero.at) 27) → w.heap.size < c1 → w.heap.size + 1 < c1 → b0 < c1 → b1 < c1 → c0 ≠ c1 → wpAnyH Try.prog .any O QQ SS 10 #[true, false, true, false, false, false, false, false, false, true, true, false, false, false] { tmps := #[.agg (vrow 5 a.at), .agg (vrow 5 b.at), .pointer (some ⟨w.heap.size, 0, none⟩), .pointer (some ⟨w.heap.size + 1, 0, none⟩), .bool false, .pointer (some ⟨b0, 0, none⟩), .pointer (some ⟨b1, 0, none⟩), .int .i64 c, .pointer (some ⟨c0, 0, none⟩), .pointer (some ⟨c1, 0, none⟩), undef, .tuple #[.agg (vrow 5 r.at), .agg (vrow 5 q.at), .int .i64 c], .agg (vrow 5 a.at), .agg (vrow 5 a.at), .agg (vrow 5 b.at), .agg (vrow 5 b.at), .tuple #[.agg (vrow 5 r.at), .agg (vrow 5 q.at), .int .i64 c], .agg (vrow 5 r.at), .agg (vrow 5 q.at), .int .i64 c, undef, .agg (vrow 5 a.at), undef, .agg (vrow 5 b.at), undef, undef, undef, undef, undef, undef, undef, undef, undef, undef, undef, undef, undef, undef, undef, undef, undef, undef, undef, undef], defers := [] } W := by
      intro W c0 c1 hH V0 n0_0 n0_1 n0_2 n0_3 V1 n1_0 n1_1 n1_2 n1_3 d0_1
      subst hO hSS hQQ
      refine wpAnyH_ready (rs := [1]) (by kernel_rfl) (by simp) (AllReadyH.cons rfl (fun K hK => ?_) AllReadyH.nil)
      · rw [if_pos (by rfl)]
        go_simp
        go_at_call 7
        refine (HT0.out _).mono ?_
        rintro o X ⟨rfl, hb⟩
        replace hH : Below w.heap.size w X ∧ X.heap[w.heap.size]? = some (.cells (vrow 5 a.at) 26) ∧ X.heap[w.heap.size + 1]? = some (.cells (vrow 5 b.at) 26) ∧ X.heap[b0]? = some (.cells (vrow 5 r.at) 27) ∧ X.heap[b1]? = some (.cells (vrow 5 q.at) 27) := ⟨hH.1.trans (hb.mono hH.1.size), row_next hb hH.2.1, row_next hb hH.2.2.1, row_next hb hH.2.2.2.1, row_next hb hH.2.2.2.2⟩
        replace V0 := row_next hb V0
        replace V1 := row_next hb V1
        clear hb
        refine hK.out _ _ hH (fun hH => ?_)
        clear hK K
        (try simp only [Act.put, List.setIfInBounds_toArray, List.set_cons_succ, List.set_cons_zero])
        refine wpAnyH_at 9 #[true, true, true, false, false, false, false, false, false, true, true, false, false, false] (by kernel_rfl) (by kernel_rfl) ?_
        exact M1_11 X c0 c1 hH V0 n0_0 n0_1 n0_2 n0_3 V1 n1_0 n1_1 n1_2 n1_3 d0_1
    have M0_10 : ∀ (W : World) (c0 : Nat), (Below w.heap.size w W ∧ W.heap[w.heap.size]? = some (.cells (vrow 5 a.at) 26) ∧ W.heap[w.heap.size + 1]? = some (.cells (vrow 5 b.at) 26) ∧ W.heap[b0]? = some (.cells (vrow 5 r.at) 27) ∧ W.heap[b1]? = some (.cells (vrow 5 q.at) 27)) → W.heap[c0]? = some (.cells (vrow 5 Br.zero.at) 27) → w.heap.size < c0 → w.heap.size + 1 < c0 → b0 < c0 → b1 < c0 → wpAnyH Try.prog .any O QQ SS 11 #[true, false, true, false, false, false, false, false, false, true, false, false, false, false] { tmps := #[.agg (vrow 5 a.at), .agg (vrow 5 b.at), .pointer (some ⟨w.heap.size, 0, none⟩), .pointer (some ⟨w.heap.size + 1, 0, none⟩), .bool false, .pointer (some ⟨b0, 0, none⟩), .pointer (some ⟨b1, 0, none⟩), .int .i64 c, .pointer (some ⟨c0, 0, none⟩), undef, undef, .tuple #[.agg (vrow 5 r.at), .agg (vrow 5 q.at), .int .i64 c], .agg (vrow 5 a.at), .agg (vrow 5 a.at), .agg (vrow 5 b.at), .agg (vrow 5 b.at), .tuple #[.agg (vrow 5 r.at), .agg (vrow 5 q.at), .int .i64 c], .agg (vrow 5 r.at), .agg (vrow 5 q.at), .int .i64 c, undef, .agg (vrow 5 a.at), undef, .agg (vrow 5 b.at), undef, undef, undef, undef, undef, undef, undef, undef, undef, undef, undef, undef, undef, undef, undef, undef, undef, undef, undef, undef], defers := [] } W := by
      intro W c0 hH V0 n0_0 n0_1 n0_2 n0_3
      subst hO hSS hQQ
      refine wpAnyH_ready (rs := [1, 10]) (by kernel_rfl) (by simp) (AllReadyH.cons rfl (fun K hK => ?_) (AllReadyH.cons rfl (fun K hK => ?_) AllReadyH.nil))
      · rw [if_pos (by rfl)]
        go_simp
        go_at_call 7
        refine (HT0.out _).mono ?_
        rintro o X ⟨rfl, hb⟩
        replace hH : Below w.heap.size w X ∧ X.heap[w.heap.size]? = some (.cells (vrow 5 a.at) 26) ∧ X.heap[w.heap.size + 1]? = some (.cells (vrow 5 b.at) 26) ∧ X.heap[b0]? = some (.cells (vrow 5 r.at) 27) ∧ X.heap[b1]? = some (.cells (vrow 5 q.at) 27) := ⟨hH.1.trans (hb.mono hH.1.size), row_next hb hH.2.1, row_next hb hH.2.2.1, row_next hb hH.2.2.2.1, row_next hb hH.2.2.2.2⟩
        replace V0 := row_next hb V0
        clear hb
        refine hK.out _ _ hH (fun hH => ?_)
        clear hK K
        (try simp only [Act.put, List.setIfInBounds_toArray, List.set_cons_succ, List.set_cons_zero])
        refine wpAnyH_at 10 #[true, true, true, false, false, false, false, false, false, true, false, false, false, false] (by kernel_rfl) (by kernel_rfl) ?_
        exact M1_10 X c0 hH V0 n0_0 n0_1 n0_2 n0_3
      · rw [if_pos (by rfl)]
        go_simp
        try simp only [sp_vrow]
        have V := heap_at W (.cells (vrow 5 Br.zero.at) 27) _ rfl
        have m0 := row_lt hH.2.1
        have m1 := row_lt hH.2.2.1
        have m2 := row_lt hH.2.2.2.1
        have m3 := row_lt hH.2.2.2.2
        have mm0 := row_lt V0
        replace V0 := heap_past _ (.cells (vrow 5 Br.zero.at) 27) _ _ mm0 V0
        replace hH : Below w.heap.size w (W.alloc (.cells (vrow 5 Br.zero.at) 27)) ∧ (W.alloc (.cells (vrow 5 Br.zero.at) 27)).heap[w.heap.size]? = some (.cells (vrow 5 a.at) 26) ∧ (W.alloc (.cells (vrow 5 Br.zero.at) 27)).heap[w.heap.size + 1]? = some (.cells (vrow 5 b.at) 26) ∧ (W.alloc (.cells (vrow 5 Br.zero.at) 27)).heap[b0]? = some (.cells (vrow 5 r.at) 27) ∧ (W.alloc (.cells (vrow 5 Br.zero.at) 27)).heap[b1]? = some (.cells (vrow 5 q.at) 27) := ⟨hH.1.alloc hH.1.size _, heap_past _ _ _ _ m0 hH.2.1, heap_past _ _ _ _ m1 hH.2.2.1, heap_past _ _ _ _ m2 hH.2.2.2.1, heap_past _ _ _ _ m3 hH.2.2.2.2⟩
        refine hK.out _ _ hH (fun hH => ?_)
        clear hK K
        (try simp only [Act.put, List.setIfInBounds_toArray, List.set_cons_succ, List.set_cons_zero])
        refine wpAnyH_at 10 #[true, false, true, false, false, false, false, false, false, true, true, false, false, false] (by kernel_rfl) (by kernel_rfl) ?_
        exact M0_11 (W.alloc (.cells (vrow 5 Br.zero.at) 27)) c0 W.heap.size hH V0 n0_0 n0_1 n0_2 n0_3 V m0 m1 m2 m3 (by omega)
    have M0_01 : ∀ (W : World) (c1 : Nat), (Below w.heap.size w W ∧ W.heap[w.heap.size]? = some (.cells (vrow 5 a.at) 26) ∧ W.heap[w.heap.size + 1]? = some (.cells (vrow 5 b.at) 26) ∧ W.heap[b0]? = some (.cells (vrow 5 r.at) 27) ∧ W.heap[b1]? = some (.cells (vrow 5 q.at) 27)) → W.heap[c1]? = some (.cells (vrow 5 Br.zero.at) 27) → w.heap.size < c1 → w.heap.size + 1 < c1 → b0 < c1 → b1 < c1 → wpAnyH Try.prog .any O QQ SS 11 #[true, false, true, false, false, false, false, false, false, false, true, false, false, false] { tmps := #[.agg (vrow 5 a.at), .agg (vrow 5 b.at), .pointer (some ⟨w.heap.size, 0, none⟩), .pointer (some ⟨w.heap.size + 1, 0, none⟩), .bool false, .pointer (some ⟨b0, 0, none⟩), .pointer (some ⟨b1, 0, none⟩), .int .i64 c, undef, .pointer (some ⟨c1, 0, none⟩), undef, .tuple #[.agg (vrow 5 r.at), .agg (vrow 5 q.at), .int .i64 c], .agg (vrow 5 a.at), .agg (vrow 5 a.at), .agg (vrow 5 b.at), .agg (vrow 5 b.at), .tuple #[.agg (vrow 5 r.at), .agg (vrow 5 q.at), .int .i64 c], .agg (vrow 5 r.at), .agg (vrow 5 q.at), .int .i64 c, undef, .agg (vrow 5 a.at), undef, .agg (vrow 5 b.at), undef, undef, undef, undef, undef, undef, undef, undef, undef, undef, undef, undef, undef, undef, undef, undef, undef, undef, undef, undef], defers := [] } W := by
      intro W c1 hH V1 n1_0 n1_1 n1_2 n1_3
      subst hO hSS hQQ
      refine wpAnyH_ready (rs := [1, 9]) (by kernel_rfl) (by simp) (AllReadyH.cons rfl (fun K hK => ?_) (AllReadyH.cons rfl (fun K hK => ?_) AllReadyH.nil))
      · rw [if_pos (by rfl)]
        go_simp
        go_at_call 7
        refine (HT0.out _).mono ?_
        rintro o X ⟨rfl, hb⟩
        replace hH : Below w.heap.size w X ∧ X.heap[w.heap.size]? = some (.cells (vrow 5 a.at) 26) ∧ X.heap[w.heap.size + 1]? = some (.cells (vrow 5 b.at) 26) ∧ X.heap[b0]? = some (.cells (vrow 5 r.at) 27) ∧ X.heap[b1]? = some (.cells (vrow 5 q.at) 27) := ⟨hH.1.trans (hb.mono hH.1.size), row_next hb hH.2.1, row_next hb hH.2.2.1, row_next hb hH.2.2.2.1, row_next hb hH.2.2.2.2⟩
        replace V1 := row_next hb V1
        clear hb
        refine hK.out _ _ hH (fun hH => ?_)
        clear hK K
        (try simp only [Act.put, List.setIfInBounds_toArray, List.set_cons_succ, List.set_cons_zero])
        refine wpAnyH_at 10 #[true, true, true, false, false, false, false, false, false, false, true, false, false, false] (by kernel_rfl) (by kernel_rfl) ?_
        exact M1_01 X c1 hH V1 n1_0 n1_1 n1_2 n1_3
      · rw [if_pos (by rfl)]
        go_simp
        try simp only [sp_vrow]
        have V := heap_at W (.cells (vrow 5 Br.zero.at) 27) _ rfl
        have m0 := row_lt hH.2.1
        have m1 := row_lt hH.2.2.1
        have m2 := row_lt hH.2.2.2.1
        have m3 := row_lt hH.2.2.2.2
        have mm1 := row_lt V1
        replace V1 := heap_past _ (.cells (vrow 5 Br.zero.at) 27) _ _ mm1 V1
        replace hH : Below w.heap.size w (W.alloc (.cells (vrow 5 Br.zero.at) 27)) ∧ (W.alloc (.cells (vrow 5 Br.zero.at) 27)).heap[w.heap.size]? = some (.cells (vrow 5 a.at) 26) ∧ (W.alloc (.cells (vrow 5 Br.zero.at) 27)).heap[w.heap.size + 1]? = some (.cells (vrow 5 b.at) 26) ∧ (W.alloc (.cells (vrow 5 Br.zero.at) 27)).heap[b0]? = some (.cells (vrow 5 r.at) 27) ∧ (W.alloc (.cells (vrow 5 Br.zero.at) 27)).heap[b1]? = some (.cells (vrow 5 q.at) 27) := ⟨hH.1.alloc hH.1.size _, heap_past _ _ _ _ m0 hH.2.1, heap_past _ _ _ _ m1 hH.2.2.1, heap_past _ _ _ _ m2 hH.2.2.2.1, heap_past _ _ _ _ m3 hH.2.2.2.2⟩
        refine hK.out _ _ hH (fun hH => ?_)
        clear hK K
        (try simp only [Act.put, List.setIfInBounds_toArray, List.set_cons_succ, List.set_cons_zero])
        refine wpAnyH_at 10 #[true, false, true, false, false, false, false, false, false, true, true, false, false, false] (by kernel_rfl) (by kernel_rfl) ?_
        exact M0_11 (W.alloc (.cells (vrow 5 Br.zero.at) 27)) W.heap.size c1 hH V m0 m1 m2 m3 V1 n1_0 n1_1 n1_2 n1_3 (by omega)
    have M0_00 : ∀ (W : World), (Below w.heap.size w W ∧ W.heap[w.heap.size]? = some (.cells (vrow 5 a.at) 26) ∧ W.heap[w.heap.size + 1]? = some (.cells (vrow 5 b.at) 26) ∧ W.heap[b0]? = some (.cells (vrow 5 r.at) 27) ∧ W.heap[b1]? = some (.cells (vrow 5 q.at) 27)) → wpAnyH Try.prog .any O QQ SS 12 #[true, false, true, false, false, false, false, false, false, false, false, false, false, false] { tmps := #[.agg (vrow 5 a.at), .agg (vrow 5 b.at), .pointer (some ⟨w.heap.size, 0, none⟩), .pointer (some ⟨w.heap.size + 1, 0, none⟩), .bool false, .pointer (some ⟨b0, 0, none⟩), .pointer (some ⟨b1, 0, none⟩), .int .i64 c, undef, undef, undef, .tuple #[.agg (vrow 5 r.at), .agg (vrow 5 q.at), .int .i64 c], .agg (vrow 5 a.at), .agg (vrow 5 a.at), .agg (vrow 5 b.at), .agg (vrow 5 b.at), .tuple #[.agg (vrow 5 r.at), .agg (vrow 5 q.at), .int .i64 c], .agg (vrow 5 r.at), .agg (vrow 5 q.at), .int .i64 c, undef, .agg (vrow 5 a.at), undef, .agg (vrow 5 b.at), undef, undef, undef, undef, undef, undef, undef, undef, undef, undef, undef, undef, undef, undef, undef, undef, undef, undef, undef, undef], defers := [] } W := by
      intro W hH
      subst hO hSS hQQ
      refine wpAnyH_ready (rs := [1, 9, 10]) (by kernel_rfl) (by simp) (AllReadyH.cons rfl (fun K hK => ?_) (AllReadyH.cons rfl (fun K hK => ?_) (AllReadyH.cons rfl (fun K hK => ?_) AllReadyH.nil)))
      · rw [if_pos (by rfl)]
        go_simp
        go_at_call 7
        refine (HT0.out _).mono ?_
        rintro o X ⟨rfl, hb⟩
        replace hH : Below w.heap.size w X ∧ X.heap[w.heap.size]? = some (.cells (vrow 5 a.at) 26) ∧ X.heap[w.heap.size + 1]? = some (.cells (vrow 5 b.at) 26) ∧ X.heap[b0]? = some (.cells (vrow 5 r.at) 27) ∧ X.heap[b1]? = some (.cells (vrow 5 q.at) 27) := ⟨hH.1.trans (hb.mono hH.1.size), row_next hb hH.2.1, row_next hb hH.2.2.1, row_next hb hH.2.2.2.1, row_next hb hH.2.2.2.2⟩
        clear hb
        refine hK.out _ _ hH (fun hH => ?_)
        clear hK K
        (try simp only [Act.put, List.setIfInBounds_toArray, List.set_cons_succ, List.set_cons_zero])
        refine wpAnyH_at 11 #[true, true, true, false, false, false, false, false, false, false, false, false, false, false] (by kernel_rfl) (by kernel_rfl) ?_
        exact M1_00 X  hH
      · rw [if_pos (by rfl)]
        go_simp
        try simp only [sp_vrow]
        have V := heap_at W (.cells (vrow 5 Br.zero.at) 27) _ rfl
        have m0 := row_lt hH.2.1
        have m1 := row_lt hH.2.2.1
        have m2 := row_lt hH.2.2.2.1
        have m3 := row_lt hH.2.2.2.2
        replace hH : Below w.heap.size w (W.alloc (.cells (vrow 5 Br.zero.at) 27)) ∧ (W.alloc (.cells (vrow 5 Br.zero.at) 27)).heap[w.heap.size]? = some (.cells (vrow 5 a.at) 26) ∧ (W.alloc (.cells (vrow 5 Br.zero.at) 27)).heap[w.heap.size + 1]? = some (.cells (vrow 5 b.at) 26) ∧ (W.alloc (.cells (vrow 5 Br.zero.at) 27)).heap[b0]? = some (.cells (vrow 5 r.at) 27) ∧ (W.alloc (.cells (vrow 5 Br.zero.at) 27)).heap[b1]? = some (.cells (vrow 5 q.at) 27) := ⟨hH.1.alloc hH.1.size _, heap_past _ _ _ _ m0 hH.2.1, heap_past _ _ _ _ m1 hH.2.2.1, heap_past _ _ _ _ m2 hH.2.2.2.1, heap_past _ _ _ _ m3 hH.2.2.2.2⟩
        refine hK.out _ _ hH (fun hH => ?_)
        clear hK K
        (try simp only [Act.put, List.setIfInBounds_toArray, List.set_cons_succ, List.set_cons_zero])
        refine wpAnyH_at 11 #[true, false, true, false, false, false, false, false, false, true, false, false, false, false] (by kernel_rfl) (by kernel_rfl) ?_
        exact M0_10 (W.alloc (.cells (vrow 5 Br.zero.at) 27)) W.heap.size hH V m0 m1 m2 m3
      · rw [if_pos (by rfl)]
        go_simp
        try simp only [sp_vrow]
        have V := heap_at W (.cells (vrow 5 Br.zero.at) 27) _ rfl
        have m0 := row_lt hH.2.1
        have m1 := row_lt hH.2.2.1
        have m2 := row_lt hH.2.2.2.1
        have m3 := row_lt hH.2.2.2.2
        replace hH : Below w.heap.size w (W.alloc (.cells (vrow 5 Br.zero.at) 27)) ∧ (W.alloc (.cells (vrow 5 Br.zero.at) 27)).heap[w.heap.size]? = some (.cells (vrow 5 a.at) 26) ∧ (W.alloc (.cells (vrow 5 Br.zero.at) 27)).heap[w.heap.size + 1]? = some (.cells (vrow 5 b.at) 26) ∧ (W.alloc (.cells (vrow 5 Br.zero.at) 27)).heap[b0]? = some (.cells (vrow 5 r.at) 27) ∧ (W.alloc (.cells (vrow 5 Br.zero.at) 27)).heap[b1]? = some (.cells (vrow 5 q.at) 27) := ⟨hH.1.alloc hH.1.size _, heap_past _ _ _ _ m0 hH.2.1, heap_past _ _ _ _ m1 hH.2.2.1, heap_past _ _ _ _ m2 hH.2.2.2.1, heap_past _ _ _ _ m3 hH.2.2.2.2⟩
        refine hK.out _ _ hH (fun hH => ?_)
        clear hK K
        (try simp only [Act.put, List.setIfInBounds_toArray, List.set_cons_succ, List.set_cons_zero])
        refine wpAnyH_at 11 #[true, false, true, false, false, false, false, false, false, false, true, false, false, false] (by kernel_rfl) (by kernel_rfl) ?_
        exact M0_01 (W.alloc (.cells (vrow 5 Br.zero.at) 27)) W.heap.size hH V m0 m1 m2 m3
    subst hO hSS hQQ
    refine wp_region_held_drew (S := fun W' => Below w.heap.size w W' ∧ W'.heap[w.heap.size]? = some (.cells (vrow 5 a.at) 26) ∧ W'.heap[w.heap.size + 1]? = some (.cells (vrow 5 b.at) 26) ∧ W'.heap[b0]? = some (.cells (vrow 5 r.at) 27) ∧ W'.heap[b1]? = some (.cells (vrow 5 q.at) 27)) (by kernel_rfl) ⟨hB.out.drew, P0.out, P1.out, U0.out, U1.out⟩ (fun hH => ?_)
    generalize World.drew _ = W at hH ⊢
    refine wpAnyH_take (i := 0) (v := (.agg (vrow 5 a.at))) rfl (by kernel_rfl) (by kernel_rfl) (by kernel_rfl) (fun _ _ _ h => by cases h.1) (yields_row (by rfl) 26 _ rfl (w.heap.size) rfl 5 a.at 26 _ Try.underlying26 rfl size_lbr (fun _ h => h.2.1)) hH ?_
    (try simp only [Act.put, List.setIfInBounds_toArray, List.set_cons_succ, List.set_cons_zero])
    refine wpAnyH_take (i := 2) (v := (.agg (vrow 5 b.at))) rfl (by kernel_rfl) (by kernel_rfl) (by kernel_rfl) (fun _ _ _ h => by cases h.1) (yields_row (by rfl) 26 _ rfl (w.heap.size + 1) rfl 5 b.at 26 _ Try.underlying26 rfl size_lbr (fun _ h => h.2.2.1)) hH ?_
    (try simp only [Act.put, List.setIfInBounds_toArray, List.set_cons_succ, List.set_cons_zero])
    refine wpAnyH_at 12 #[true, false, true, false, false, false, false, false, false, false, false, false, false, false] (by kernel_rfl) (by kernel_rfl) ?_
    exact M0_00 W hH
  rintro e2 a2 W2 ⟨rfl, c0, c1, rfl, ⟨hB, P0, P1, U0, U1⟩, V0, V1⟩
  replace hB := Go.Lib.hid hB; replace P0 := Go.Lib.hid P0; replace P1 := Go.Lib.hid P1; replace U0 := Go.Lib.hid U0; replace U1 := Go.Lib.hid U1; replace V0 := Go.Lib.hid V0; replace V1 := Go.Lib.hid V1
  go_wp2_with (first
    | go_skip
    | ((with_reducible refine wlAt 29 rfl ?_); refine wpList_loadall rfl 27 (.tmp 8) rfl _ rfl 5 r.at 27 _ Try.underlying27 rfl size_br V0.out ?_)
    | ((with_reducible refine wlAt 30 rfl ?_); refine wpList_loadall rfl 27 (.tmp 5) rfl _ rfl 5 r.at 27 _ Try.underlying27 rfl size_br U0.out ?_)
    | ((with_reducible refine wlAt 34 rfl ?_); refine wpList_ldm 27 _ rfl (by first | exact want_n rfl | exact want_g _ _ _ rfl rfl rfl) c1 0 rfl 5 5 q.at _ rw_br size_br V1.out (by omega) ?_; rw [vrow_all0])
    | ((with_reducible refine wlAt 35 rfl ?_); refine wpList_ldm 27 _ rfl (by first | exact want_n rfl | exact want_g _ _ _ rfl rfl rfl) b1 0 rfl 5 5 q.at _ rw_br size_br U1.out (by omega) ?_; rw [vrow_all0])
    | (go_at_call 9; (first | (with_reducible refine (eqBrush_any r _).mono ?_) | (with_reducible refine (eqBrush_any q _).mono ?_)); rintro o w3 ⟨rfl, hb⟩; (try (replace U0 := Go.Lib.hid (row_next hb U0.out))); (try (replace U1 := Go.Lib.hid (row_next hb U1.out))); (try (replace V0 := Go.Lib.hid (row_next hb V0.out))); (try (replace V1 := Go.Lib.hid (row_next hb V1.out))); replace hB := Go.Lib.hid (below_next hB.out hb); clear hb))
  go_ret
  exact ⟨rfl, hB.out⟩
end Go.Proofs.Ythkkbkpfomhdeaa
