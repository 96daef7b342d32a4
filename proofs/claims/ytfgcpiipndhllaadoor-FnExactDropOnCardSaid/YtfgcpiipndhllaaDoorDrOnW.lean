import Derived.Deep.RegionHeld3
import Derived.Test.YtfgcpiipndhllaaDoorDrD
namespace Go.Proofs.YtfgcpiipndhllaaDoor
open Go.RowKit
set_option maxRecDepth 100000
set_option linter.unusedVariables false
set_option linter.unusedSimpArgs false
set_option maxHeartbeats 4000000 in
theorem dron_walk (p : Pic) (x y n : Int) (q : Pic) (k : Int) (e : ErrE) (w : World) (hE : Errs e w)
    (hS : ∀ w, Calls Tryd.prog 27 #[.agg (vrow 66 p.at), .agg (vrow 3 (drAt x y n))] w fun e w' => e = .returned (.tuple #[.agg (vrow 66 q.at), .int .i64 k]) ∧ Below w.heap.size w w')
    (hI : ∀ w, Errs e w → Calls Tryd.prog 30 #[.agg (vrow 66 p.at), .agg (vrow 3 (drAt x y n))] w fun e w' => e = .returned (.tuple #[.agg (vrow 66 q.at), .int .i64 k]) ∧ Below w.heap.size w w') : Calls Tryd.prog 6 #[.agg (vrow 66 p.at), .agg (vrow 3 (drAt x y n))] w fun o w' => o = .returned (.bool true) ∧ Below w.heap.size w w' := by
  have zz_p := zero_pic
  have HT0 := Go.Lib.hid (fun w => toPicture_any p w)
  have HT1 := Go.Lib.hid (fun w => toDrop_any x y n w)
  have HS := Go.Lib.hid hS; have HI := Go.Lib.hid hI
  clear hS hI
  have hB : Hid (Below w.heap.size w ((w.alloc (.cells (vrow 66 p.at) 58)).alloc (.cells (vrow 3 (drAt x y n)) 60))) := (((Below.refl w.heap.size w).alloc (by simp <;> omega) _).alloc (by simp <;> omega) _)
  have P0 : Hid (((w.alloc (.cells (vrow 66 p.at) 58)).alloc (.cells (vrow 3 (drAt x y n)) 60)).heap[w.heap.size]? = some (.cells (vrow 66 p.at) 58)) := heap_past _ _ _ _ (by first | omega | (simp <;> omega)) (heap_at _ _ _ (by simp))
  have P1 : Hid (((w.alloc (.cells (vrow 66 p.at) 58)).alloc (.cells (vrow 3 (drAt x y n)) 60)).heap[w.heap.size + 1]? = some (.cells (vrow 3 (drAt x y n)) 60)) := heap_at _ _ _ (by simp)
  go_enter Tryd.func6, Tryd.ntmps6
  go_wp2
  refine Code.wp_mono (Q := fun e a' W' => e = .normal ∧ ∃ b0, a' = { tmps := #[.agg (vrow 66 p.at), .agg (vrow 3 (drAt x y n)), .pointer (some ⟨w.heap.size, 0, none⟩), .pointer (some ⟨w.heap.size + 1, 0, none⟩), .bool false, .pointer (some ⟨b0, 0, none⟩), .int .i64 k, undef, undef, .tuple #[.agg (vrow 66 q.at), .int .i64 k], .agg (vrow 66 p.at), .agg (vrow 66 p.at), .agg (vrow 3 (drAt x y n)), .agg (vrow 3 (drAt x y n)), .tuple #[.agg (vrow 66 q.at), .int .i64 k], .agg (vrow 66 q.at), .int .i64 k, undef, undef, undef, undef, undef, undef, undef, undef, undef, undef, undef, undef, undef, undef, undef, undef, undef], defers := [] } ∧ (Below w.heap.size w W' ∧ W'.heap[w.heap.size]? = some (.cells (vrow 66 p.at) 58) ∧ W'.heap[w.heap.size + 1]? = some (.cells (vrow 3 (drAt x y n)) 60)) ∧ W'.heap[b0]? = some (.cells (vrow 66 q.at) 61)) ?_ ?_
  rotate_left
  · refine region_gen (fun O hO => ?_)
    obtain ⟨SS, hSS⟩ : ∃ zS : World → Prop, zS = (fun W' => Below w.heap.size w W' ∧ W'.heap[w.heap.size]? = some (.cells (vrow 66 p.at) 58) ∧ W'.heap[w.heap.size + 1]? = some (.cells (vrow 3 (drAt x y n)) 60)) := ⟨_, rfl⟩
    obtain ⟨QQ, hQQ⟩ : ∃ zQ : Exit → Act → World → Prop, zQ = (fun e a' W' => e = .normal ∧ ∃ b0, a' = { tmps := #[.agg (vrow 66 p.at), .agg (vrow 3 (drAt x y n)), .pointer (some ⟨w.heap.size, 0, none⟩), .pointer (some ⟨w.heap.size + 1, 0, none⟩), .bool false, .pointer (some ⟨b0, 0, none⟩), .int .i64 k, undef, undef, .tuple #[.agg (vrow 66 q.at), .int .i64 k], .agg (vrow 66 p.at), .agg (vrow 66 p.at), .agg (vrow 3 (drAt x y n)), .agg (vrow 3 (drAt x y n)), .tuple #[.agg (vrow 66 q.at), .int .i64 k], .agg (vrow 66 q.at), .int .i64 k, undef, undef, undef, undef, undef, undef, undef, undef, undef, undef, undef, undef, undef, undef, undef, undef, undef], defers := [] } ∧ (Below w.heap.size w W' ∧ W'.heap[w.heap.size]? = some (.cells (vrow 66 p.at) 58) ∧ W'.heap[w.heap.size + 1]? = some (.cells (vrow 3 (drAt x y n)) 60)) ∧ W'.heap[b0]? = some (.cells (vrow 66 q.at) 61)) := ⟨_, rfl⟩
    rw [← hQQ]
    have N3_1 : ∀ (W : World) (b0 : Nat), (Below w.heap.size w W ∧ W.heap[w.heap.size]? = some (.cells (vrow 66 p.at) 58) ∧ W.heap[w.heap.size + 1]? = some (.cells (vrow 3 (drAt x y n)) 60)) → W.heap[b0]? = some (.cells (vrow 66 Pic.zero.at) 61) → w.heap.size < b0 → w.heap.size + 1 < b0 → wpAnyH Tryd.prog .any O QQ SS 2 #[true, true, true, true, true, true, true, true, true, false, false] { tmps := #[.agg (vrow 66 p.at), .agg (vrow 3 (drAt x y n)), .pointer (some ⟨w.heap.size, 0, none⟩), .pointer (some ⟨w.heap.size + 1, 0, none⟩), .bool false, .pointer (some ⟨b0, 0, none⟩), undef, undef, undef, .tuple #[.agg (vrow 66 q.at), .int .i64 k], .agg (vrow 66 p.at), .agg (vrow 66 p.at), .agg (vrow 3 (drAt x y n)), .agg (vrow 3 (drAt x y n)), .tuple #[.agg (vrow 66 q.at), .int .i64 k], .agg (vrow 66 q.at), .int .i64 k, undef, undef, undef, undef, undef, undef, undef, undef, undef, undef, undef, undef, undef, undef, undef, undef, undef], defers := [] } W := by
      intro W b0 hH V0 n0_0 n0_1
      subst hO hSS hQQ
      refine wpAnyH_ready (rs := [9]) (by kernel_rfl) (by simp) (AllReadyH.cons rfl (fun K hK => ?_) AllReadyH.nil)
      rw [if_pos (by rfl)]
      unfold Oper.wp
      rw [run_storemid 61 (.tmp 5) (.tmp 15) rfl b0 0 rfl 66 66 Pic.zero.at q.at rfl 61 size_pic V0 (by omega) (fun i _ => Pic.one _ i), vrow_over_all, Oper.upon_skip]
      replace V0 := row_set V0 (vrow 66 q.at)
      have hH2 : Below w.heap.size w (W.setRow b0 (vrow 66 q.at)) ∧ (W.setRow b0 (vrow 66 q.at)).heap[w.heap.size]? = some (.cells (vrow 66 p.at) 58) ∧ (W.setRow b0 (vrow 66 q.at)).heap[w.heap.size + 1]? = some (.cells (vrow 3 (drAt x y n)) 60) := ⟨Below_setRow hH.1 (by omega) _, row_set' (by omega) hH.2.1 _, row_set' (by omega) hH.2.2 _⟩
      refine hK.out _ _ hH2 (fun hH => ?_)
      clear hK K hH2
      (try simp only [Act.put, List.setIfInBounds_toArray, List.set_cons_succ, List.set_cons_zero])
      generalize (W.setRow b0 (vrow 66 q.at)) = Y0 at hH V0 ⊢
      refine wpAnyH_take (i := 10) (v := (.int .i64 k)) rfl (by kernel_rfl) (by kernel_rfl) (by kernel_rfl) (fun _ _ _ h => by cases h.1) (.inl ⟨by rfl, fun w _ => by go_simp⟩) hH ?_
      (try simp only [Act.put, List.setIfInBounds_toArray, List.set_cons_succ, List.set_cons_zero])
      refine wpAnyH_done (by kernel_rfl) ?_ _
      exact ⟨rfl, b0, rfl, hH, V0⟩
    have N3_0 : ∀ (W : World), (Below w.heap.size w W ∧ W.heap[w.heap.size]? = some (.cells (vrow 66 p.at) 58) ∧ W.heap[w.heap.size + 1]? = some (.cells (vrow 3 (drAt x y n)) 60)) → wpAnyH Tryd.prog .any O QQ SS 3 #[true, true, true, true, true, true, true, true, false, false, false] { tmps := #[.agg (vrow 66 p.at), .agg (vrow 3 (drAt x y n)), .pointer (some ⟨w.heap.size, 0, none⟩), .pointer (some ⟨w.heap.size + 1, 0, none⟩), .bool false, undef, undef, undef, undef, .tuple #[.agg (vrow 66 q.at), .int .i64 k], .agg (vrow 66 p.at), .agg (vrow 66 p.at), .agg (vrow 3 (drAt x y n)), .agg (vrow 3 (drAt x y n)), .tuple #[.agg (vrow 66 q.at), .int .i64 k], .agg (vrow 66 q.at), .int .i64 k, undef, undef, undef, undef, undef, undef, undef, undef, undef, undef, undef, undef, undef, undef, undef, undef, undef], defers := [] } W := by
      intro W hH
      subst hO hSS hQQ
      refine wpAnyH_ready (rs := [8]) (by kernel_rfl) (by simp) (AllReadyH.cons rfl (fun K hK => ?_) AllReadyH.nil)
      · rw [if_pos (by rfl)]
        go_simp
        try simp only [sp_vrow]
        have V := heap_at W (.cells (vrow 66 Pic.zero.at) 61) _ rfl
        have m0 := row_lt hH.2.1
        have m1 := row_lt hH.2.2
        replace hH : Below w.heap.size w (W.alloc (.cells (vrow 66 Pic.zero.at) 61)) ∧ (W.alloc (.cells (vrow 66 Pic.zero.at) 61)).heap[w.heap.size]? = some (.cells (vrow 66 p.at) 58) ∧ (W.alloc (.cells (vrow 66 Pic.zero.at) 61)).heap[w.heap.size + 1]? = some (.cells (vrow 3 (drAt x y n)) 60) := ⟨hH.1.alloc hH.1.size _, heap_past _ _ _ _ m0 hH.2.1, heap_past _ _ _ _ m1 hH.2.2⟩
        refine hK.out _ _ hH (fun hH => ?_)
        clear hK K
        (try simp only [Act.put, List.setIfInBounds_toArray, List.set_cons_succ, List.set_cons_zero])
        refine wpAnyH_at 2 #[true, true, true, true, true, true, true, true, true, false, false] (by kernel_rfl) (by kernel_rfl) ?_
        exact N3_1 (W.alloc (.cells (vrow 66 Pic.zero.at) 61)) W.heap.size hH V m0 m1
    have N2_1 : ∀ (W : World) (b0 : Nat), (Below w.heap.size w W ∧ W.heap[w.heap.size]? = some (.cells (vrow 66 p.at) 58) ∧ W.heap[w.heap.size + 1]? = some (.cells (vrow 3 (drAt x y n)) 60)) → W.heap[b0]? = some (.cells (vrow 66 Pic.zero.at) 61) → w.heap.size < b0 → w.heap.size + 1 < b0 → wpAnyH Tryd.prog .any O QQ SS 6 #[true, true, true, true, false, false, false, false, true, false, false] { tmps := #[.agg (vrow 66 p.at), .agg (vrow 3 (drAt x y n)), .pointer (some ⟨w.heap.size, 0, none⟩), .pointer (some ⟨w.heap.size + 1, 0, none⟩), .bool false, .pointer (some ⟨b0, 0, none⟩), undef, undef, undef, undef, .agg (vrow 66 p.at), .agg (vrow 66 p.at), .agg (vrow 3 (drAt x y n)), .agg (vrow 3 (drAt x y n)), undef, undef, undef, undef, undef, undef, undef, undef, undef, undef, undef, undef, undef, undef, undef, undef, undef, undef, undef, undef], defers := [] } W := by
      intro W b0 hH V0 n0_0 n0_1
      subst hO hSS hQQ
      refine wpAnyH_ready (rs := [4]) (by kernel_rfl) (by simp) (AllReadyH.cons rfl (fun K hK => ?_) AllReadyH.nil)
      · rw [if_pos (by rfl)]
        go_simp
        go_at_call 27
        refine (HS.out _).mono ?_
        rintro o X ⟨rfl, hb⟩
        replace hH : Below w.heap.size w X ∧ X.heap[w.heap.size]? = some (.cells (vrow 66 p.at) 58) ∧ X.heap[w.heap.size + 1]? = some (.cells (vrow 3 (drAt x y n)) 60) := ⟨hH.1.trans (hb.mono hH.1.size), row_next hb hH.2.1, row_next hb hH.2.2⟩
        replace V0 := row_next hb V0
        clear hb
        refine hK.out _ _ hH (fun hH => ?_)
        clear hK K
        (try simp only [Act.put, List.setIfInBounds_toArray, List.set_cons_succ, List.set_cons_zero])
        refine wpAnyH_take (i := 5) (v := (.tuple #[.agg (vrow 66 q.at), .int .i64 k])) rfl (by kernel_rfl) (by kernel_rfl) (by kernel_rfl) (fun _ _ _ h => by cases h.1) (.inl ⟨by rfl, fun w _ => by go_simp⟩) hH ?_
        (try simp only [Act.put, List.setIfInBounds_toArray, List.set_cons_succ, List.set_cons_zero])
        refine wpAnyH_take (i := 6) (v := (.agg (vrow 66 q.at))) rfl (by kernel_rfl) (by kernel_rfl) (by kernel_rfl) (fun _ _ _ h => by cases h.1) (.inl ⟨by rfl, fun w _ => by go_simp⟩) hH ?_
        (try simp only [Act.put, List.setIfInBounds_toArray, List.set_cons_succ, List.set_cons_zero])
        refine wpAnyH_take (i := 7) (v := (.int .i64 k)) rfl (by kernel_rfl) (by kernel_rfl) (by kernel_rfl) (fun _ _ _ h => by cases h.1) (.inl ⟨by rfl, fun w _ => by go_simp⟩) hH ?_
        (try simp only [Act.put, List.setIfInBounds_toArray, List.set_cons_succ, List.set_cons_zero])
        refine wpAnyH_at 2 #[true, true, true, true, true, true, true, true, true, false, false] (by kernel_rfl) (by kernel_rfl) ?_
        exact N3_1 X b0 hH V0 n0_0 n0_1
    have N2_0 : ∀ (W : World), (Below w.heap.size w W ∧ W.heap[w.heap.size]? = some (.cells (vrow 66 p.at) 58) ∧ W.heap[w.heap.size + 1]? = some (.cells (vrow 3 (drAt x y n)) 60)) → wpAnyH Tryd.prog .any O QQ SS 7 #[true, true, true, true, false, false, false, false, false, false, false] { tmps := #[.agg (vrow 66 p.at), .agg (vrow 3 (drAt x y n)), .pointer (some ⟨w.heap.size, 0, none⟩), .pointer (some ⟨w.heap.size + 1, 0, none⟩), .bool false, undef, undef, undef, undef, undef, .agg (vrow 66 p.at), .agg (vrow 66 p.at), .agg (vrow 3 (drAt x y n)), .agg (vrow 3 (drAt x y n)), undef, undef, undef, undef, undef, undef, undef, undef, undef, undef, undef, undef, undef, undef, undef, undef, undef, undef, undef, undef], defers := [] } W := by
      intro W hH
      subst hO hSS hQQ
      refine wpAnyH_ready (rs := [4, 8]) (by kernel_rfl) (by simp) (AllReadyH.cons rfl (fun K hK => ?_) (AllReadyH.cons rfl (fun K hK => ?_) AllReadyH.nil))
      · rw [if_pos (by rfl)]
        go_simp
        go_at_call 27
        refine (HS.out _).mono ?_
        rintro o X ⟨rfl, hb⟩
        replace hH : Below w.heap.size w X ∧ X.heap[w.heap.size]? = some (.cells (vrow 66 p.at) 58) ∧ X.heap[w.heap.size + 1]? = some (.cells (vrow 3 (drAt x y n)) 60) := ⟨hH.1.trans (hb.mono hH.1.size), row_next hb hH.2.1, row_next hb hH.2.2⟩
        clear hb
        refine hK.out _ _ hH (fun hH => ?_)
        clear hK K
        (try simp only [Act.put, List.setIfInBounds_toArray, List.set_cons_succ, List.set_cons_zero])
        refine wpAnyH_take (i := 5) (v := (.tuple #[.agg (vrow 66 q.at), .int .i64 k])) rfl (by kernel_rfl) (by kernel_rfl) (by kernel_rfl) (fun _ _ _ h => by cases h.1) (.inl ⟨by rfl, fun w _ => by go_simp⟩) hH ?_
        (try simp only [Act.put, List.setIfInBounds_toArray, List.set_cons_succ, List.set_cons_zero])
        refine wpAnyH_take (i := 6) (v := (.agg (vrow 66 q.at))) rfl (by kernel_rfl) (by kernel_rfl) (by kernel_rfl) (fun _ _ _ h => by cases h.1) (.inl ⟨by rfl, fun w _ => by go_simp⟩) hH ?_
        (try simp only [Act.put, List.setIfInBounds_toArray, List.set_cons_succ, List.set_cons_zero])
        refine wpAnyH_take (i := 7) (v := (.int .i64 k)) rfl (by kernel_rfl) (by kernel_rfl) (by kernel_rfl) (fun _ _ _ h => by cases h.1) (.inl ⟨by rfl, fun w _ => by go_simp⟩) hH ?_
        (try simp only [Act.put, List.setIfInBounds_toArray, List.set_cons_succ, List.set_cons_zero])
        refine wpAnyH_at 3 #[true, true, true, true, true, true, true, true, false, false, false] (by kernel_rfl) (by kernel_rfl) ?_
        exact N3_0 X  hH
      · rw [if_pos (by rfl)]
        go_simp
        try simp only [sp_vrow]
        have V := heap_at W (.cells (vrow 66 Pic.zero.at) 61) _ rfl
        have m0 := row_lt hH.2.1
        have m1 := row_lt hH.2.2
        replace hH : Below w.heap.size w (W.alloc (.cells (vrow 66 Pic.zero.at) 61)) ∧ (W.alloc (.cells (vrow 66 Pic.zero.at) 61)).heap[w.heap.size]? = some (.cells (vrow 66 p.at) 58) ∧ (W.alloc (.cells (vrow 66 Pic.zero.at) 61)).heap[w.heap.size + 1]? = some (.cells (vrow 3 (drAt x y n)) 60) := ⟨hH.1.alloc hH.1.size _, heap_past _ _ _ _ m0 hH.2.1, heap_past _ _ _ _ m1 hH.2.2⟩
        refine hK.out _ _ hH (fun hH => ?_)
        clear hK K
        (try simp only [Act.put, List.setIfInBounds_toArray, List.set_cons_succ, List.set_cons_zero])
        refine wpAnyH_at 6 #[true, true, true, true, false, false, false, false, true, false, false] (by kernel_rfl) (by kernel_rfl) ?_
        exact N2_1 (W.alloc (.cells (vrow 66 Pic.zero.at) 61)) W.heap.size hH V m0 m1
    have N1_1 : ∀ (W : World) (b0 : Nat), (Below w.heap.size w W ∧ W.heap[w.heap.size]? = some (.cells (vrow 66 p.at) 58) ∧ W.heap[w.heap.size + 1]? = some (.cells (vrow 3 (drAt x y n)) 60)) → W.heap[b0]? = some (.cells (vrow 66 Pic.zero.at) 61) → w.heap.size < b0 → w.heap.size + 1 < b0 → wpAnyH Tryd.prog .any O QQ SS 7 #[true, true, true, false, false, false, false, false, true, false, false] { tmps := #[.agg (vrow 66 p.at), .agg (vrow 3 (drAt x y n)), .pointer (some ⟨w.heap.size, 0, none⟩), .pointer (some ⟨w.heap.size + 1, 0, none⟩), .bool false, .pointer (some ⟨b0, 0, none⟩), undef, undef, undef, undef, .agg (vrow 66 p.at), .agg (vrow 66 p.at), .agg (vrow 3 (drAt x y n)), undef, undef, undef, undef, undef, undef, undef, undef, undef, undef, undef, undef, undef, undef, undef, undef, undef, undef, undef, undef, undef], defers := [] } W := by
      intro W b0 hH V0 n0_0 n0_1
      subst hO hSS hQQ
      refine wpAnyH_ready (rs := [3]) (by kernel_rfl) (by simp) (AllReadyH.cons rfl (fun K hK => ?_) AllReadyH.nil)
      · rw [if_pos (by rfl)]
        go_simp
        go_at_call 29
        refine (HT1.out _).mono ?_
        rintro o X ⟨rfl, hb⟩
        replace hH : Below w.heap.size w X ∧ X.heap[w.heap.size]? = some (.cells (vrow 66 p.at) 58) ∧ X.heap[w.heap.size + 1]? = some (.cells (vrow 3 (drAt x y n)) 60) := ⟨hH.1.trans (hb.mono hH.1.size), row_next hb hH.2.1, row_next hb hH.2.2⟩
        replace V0 := row_next hb V0
        clear hb
        refine hK.out _ _ hH (fun hH => ?_)
        clear hK K
        (try simp only [Act.put, List.setIfInBounds_toArray, List.set_cons_succ, List.set_cons_zero])
        refine wpAnyH_at 6 #[true, true, true, true, false, false, false, false, true, false, false] (by kernel_rfl) (by kernel_rfl) ?_
        exact N2_1 X b0 hH V0 n0_0 n0_1
    have N1_0 : ∀ (W : World), (Below w.heap.size w W ∧ W.heap[w.heap.size]? = some (.cells (vrow 66 p.at) 58) ∧ W.heap[w.heap.size + 1]? = some (.cells (vrow 3 (drAt x y n)) 60)) → wpAnyH Tryd.prog .any O QQ SS 8 #[true, true, true, false, false, false, false, false, false, false, false] { tmps := #[.agg (vrow 66 p.at), .agg (vrow 3 (drAt x y n)), .pointer (some ⟨w.heap.size, 0, none⟩), .pointer (some ⟨w.heap.size + 1, 0, none⟩), .bool false, undef, undef, undef, undef, undef, .agg (vrow 66 p.at), .agg (vrow 66 p.at), .agg (vrow 3 (drAt x y n)), undef, undef, undef, undef, undef, undef, undef, undef, undef, undef, undef, undef, undef, undef, undef, undef, undef, undef, undef, undef, undef], defers := [] } W := by
      intro W hH
      subst hO hSS hQQ
      refine wpAnyH_ready (rs := [3, 8]) (by kernel_rfl) (by simp) (AllReadyH.cons rfl (fun K hK => ?_) (AllReadyH.cons rfl (fun K hK => ?_) AllReadyH.nil))
      · rw [if_pos (by rfl)]
        go_simp
        go_at_call 29
        refine (HT1.out _).mono ?_
        rintro o X ⟨rfl, hb⟩
        replace hH : Below w.heap.size w X ∧ X.heap[w.heap.size]? = some (.cells (vrow 66 p.at) 58) ∧ X.heap[w.heap.size + 1]? = some (.cells (vrow 3 (drAt x y n)) 60) := ⟨hH.1.trans (hb.mono hH.1.size), row_next hb hH.2.1, row_next hb hH.2.2⟩
        clear hb
        refine hK.out _ _ hH (fun hH => ?_)
        clear hK K
        (try simp only [Act.put, List.setIfInBounds_toArray, List.set_cons_succ, List.set_cons_zero])
        refine wpAnyH_at 7 #[true, true, true, true, false, false, false, false, false, false, false] (by kernel_rfl) (by kernel_rfl) ?_
        exact N2_0 X  hH
      · rw [if_pos (by rfl)]
        go_simp
        try simp only [sp_vrow]
        have V := heap_at W (.cells (vrow 66 Pic.zero.at) 61) _ rfl
        have m0 := row_lt hH.2.1
        have m1 := row_lt hH.2.2
        replace hH : Below w.heap.size w (W.alloc (.cells (vrow 66 Pic.zero.at) 61)) ∧ (W.alloc (.cells (vrow 66 Pic.zero.at) 61)).heap[w.heap.size]? = some (.cells (vrow 66 p.at) 58) ∧ (W.alloc (.cells (vrow 66 Pic.zero.at) 61)).heap[w.heap.size + 1]? = some (.cells (vrow 3 (drAt x y n)) 60) := ⟨hH.1.alloc hH.1.size _, heap_past _ _ _ _ m0 hH.2.1, heap_past _ _ _ _ m1 hH.2.2⟩
        refine hK.out _ _ hH (fun hH => ?_)
        clear hK K
        (try simp only [Act.put, List.setIfInBounds_toArray, List.set_cons_succ, List.set_cons_zero])
        refine wpAnyH_at 7 #[true, true, true, false, false, false, false, false, true, false, false] (by kernel_rfl) (by kernel_rfl) ?_
        exact N1_1 (W.alloc (.cells (vrow 66 Pic.zero.at) 61)) W.heap.size hH V m0 m1
    have N0_1 : ∀ (W : World) (b0 : Nat), (Below w.heap.size w W ∧ W.heap[w.heap.size]? = some (.cells (vrow 66 p.at) 58) ∧ W.heap[w.heap.size + 1]? = some (.cells (vrow 3 (drAt x y n)) 60)) → W.heap[b0]? = some (.cells (vrow 66 Pic.zero.at) 61) → w.heap.size < b0 → w.heap.size + 1 < b0 → wpAnyH Tryd.prog .any O QQ SS 8 #[true, false, true, false, false, false, false, false, true, false, false] { tmps := #[.agg (vrow 66 p.at), .agg (vrow 3 (drAt x y n)), .pointer (some ⟨w.heap.size, 0, none⟩), .pointer (some ⟨w.heap.size + 1, 0, none⟩), .bool false, .pointer (some ⟨b0, 0, none⟩), undef, undef, undef, undef, .agg (vrow 66 p.at), undef, .agg (vrow 3 (drAt x y n)), undef, undef, undef, undef, undef, undef, undef, undef, undef, undef, undef, undef, undef, undef, undef, undef, undef, undef, undef, undef, undef], defers := [] } W := by
      intro W b0 hH V0 n0_0 n0_1
      subst hO hSS hQQ
      refine wpAnyH_ready (rs := [1]) (by kernel_rfl) (by simp) (AllReadyH.cons rfl (fun K hK => ?_) AllReadyH.nil)
      · rw [if_pos (by rfl)]
        go_simp
        go_at_call 28
        refine (HT0.out _).mono ?_
        rintro o X ⟨rfl, hb⟩
        replace hH : Below w.heap.size w X ∧ X.heap[w.heap.size]? = some (.cells (vrow 66 p.at) 58) ∧ X.heap[w.heap.size + 1]? = some (.cells (vrow 3 (drAt x y n)) 60) := ⟨hH.1.trans (hb.mono hH.1.size), row_next hb hH.2.1, row_next hb hH.2.2⟩
        replace V0 := row_next hb V0
        clear hb
        refine hK.out _ _ hH (fun hH => ?_)
        clear hK K
        (try simp only [Act.put, List.setIfInBounds_toArray, List.set_cons_succ, List.set_cons_zero])
        refine wpAnyH_at 7 #[true, true, true, false, false, false, false, false, true, false, false] (by kernel_rfl) (by kernel_rfl) ?_
        exact N1_1 X b0 hH V0 n0_0 n0_1
    have N0_0 : ∀ (W : World), (Below w.heap.size w W ∧ W.heap[w.heap.size]? = some (.cells (vrow 66 p.at) 58) ∧ W.heap[w.heap.size + 1]? = some (.cells (vrow 3 (drAt x y n)) 60)) → wpAnyH Tryd.prog .any O QQ SS 9 #[true, false, true, false, false, false, false, false, false, false, false] { tmps := #[.agg (vrow 66 p.at), .agg (vrow 3 (drAt x y n)), .pointer (some ⟨w.heap.size, 0, none⟩), .pointer (some ⟨w.heap.size + 1, 0, none⟩), .bool false, undef, undef, undef, undef, undef, .agg (vrow 66 p.at), undef, .agg (vrow 3 (drAt x y n)), undef, undef, undef, undef, undef, undef, undef, undef, undef, undef, undef, undef, undef, undef, undef, undef, undef, undef, undef, undef, undef], defers := [] } W := by
      intro W hH
      subst hO hSS hQQ
      refine wpAnyH_ready (rs := [1, 8]) (by kernel_rfl) (by simp) (AllReadyH.cons rfl (fun K hK => ?_) (AllReadyH.cons rfl (fun K hK => ?_) AllReadyH.nil))
      · rw [if_pos (by rfl)]
        go_simp
        go_at_call 28
        refine (HT0.out _).mono ?_
        rintro o X ⟨rfl, hb⟩
        replace hH : Below w.heap.size w X ∧ X.heap[w.heap.size]? = some (.cells (vrow 66 p.at) 58) ∧ X.heap[w.heap.size + 1]? = some (.cells (vrow 3 (drAt x y n)) 60) := ⟨hH.1.trans (hb.mono hH.1.size), row_next hb hH.2.1, row_next hb hH.2.2⟩
        clear hb
        refine hK.out _ _ hH (fun hH => ?_)
        clear hK K
        (try simp only [Act.put, List.setIfInBounds_toArray, List.set_cons_succ, List.set_cons_zero])
        refine wpAnyH_at 8 #[true, true, true, false, false, false, false, false, false, false, false] (by kernel_rfl) (by kernel_rfl) ?_
        exact N1_0 X  hH
      · rw [if_pos (by rfl)]
        go_simp
        try simp only [sp_vrow]
        have V := heap_at W (.cells (vrow 66 Pic.zero.at) 61) _ rfl
        have m0 := row_lt hH.2.1
        have m1 := row_lt hH.2.2
        replace hH : Below w.heap.size w (W.alloc (.cells (vrow 66 Pic.zero.at) 61)) ∧ (W.alloc (.cells (vrow 66 Pic.zero.at) 61)).heap[w.heap.size]? = some (.cells (vrow 66 p.at) 58) ∧ (W.alloc (.cells (vrow 66 Pic.zero.at) 61)).heap[w.heap.size + 1]? = some (.cells (vrow 3 (drAt x y n)) 60) := ⟨hH.1.alloc hH.1.size _, heap_past _ _ _ _ m0 hH.2.1, heap_past _ _ _ _ m1 hH.2.2⟩
        refine hK.out _ _ hH (fun hH => ?_)
        clear hK K
        (try simp only [Act.put, List.setIfInBounds_toArray, List.set_cons_succ, List.set_cons_zero])
        refine wpAnyH_at 8 #[true, false, true, false, false, false, false, false, true, false, false] (by kernel_rfl) (by kernel_rfl) ?_
        exact N0_1 (W.alloc (.cells (vrow 66 Pic.zero.at) 61)) W.heap.size hH V m0 m1
    subst hO hSS hQQ
    refine wp_region_held_drew (S := fun W' => Below w.heap.size w W' ∧ W'.heap[w.heap.size]? = some (.cells (vrow 66 p.at) 58) ∧ W'.heap[w.heap.size + 1]? = some (.cells (vrow 3 (drAt x y n)) 60)) (by kernel_rfl) ⟨hB.out.drew, P0.out, P1.out⟩ (fun hH => ?_)
    generalize World.drew _ = W at hH ⊢
    refine wpAnyH_take (i := 0) (v := (.agg (vrow 66 p.at))) rfl (by kernel_rfl) (by kernel_rfl) (by kernel_rfl) (fun _ _ _ h => by cases h.1) (yields_row (by rfl) 58 _ rfl (w.heap.size) rfl 66 p.at 58 _ Tryd.underlying58 rfl size_lpic (fun _ h => h.2.1)) hH ?_
    (try simp only [Act.put, List.setIfInBounds_toArray, List.set_cons_succ, List.set_cons_zero])
    refine wpAnyH_take (i := 2) (v := (.agg (vrow 3 (drAt x y n)))) rfl (by kernel_rfl) (by kernel_rfl) (by kernel_rfl) (fun _ _ _ h => by cases h.1) (yields_row (by rfl) 60 _ rfl (w.heap.size + 1) rfl 3 (drAt x y n) 60 _ Tryd.underlying60 rfl size_ldr2 (fun _ h => h.2.2)) hH ?_
    (try simp only [Act.put, List.setIfInBounds_toArray, List.set_cons_succ, List.set_cons_zero])
    refine wpAnyH_at 9 #[true, false, true, false, false, false, false, false, false, false, false] (by kernel_rfl) (by kernel_rfl) ?_
    exact N0_0 W hH
  rintro e1 a1 W1 ⟨rfl, b0, rfl, ⟨hB, P0, P1⟩, U0⟩
  replace hB := Go.Lib.hid hB; replace P0 := Go.Lib.hid P0; replace P1 := Go.Lib.hid P1; replace U0 := Go.Lib.hid U0
  go_wp2
  refine Code.wp_mono (Q := fun e a' W' => e = .normal ∧ ∃ c0, a' = { tmps := #[.agg (vrow 66 p.at), .agg (vrow 3 (drAt x y n)), .pointer (some ⟨w.heap.size, 0, none⟩), .pointer (some ⟨w.heap.size + 1, 0, none⟩), .bool false, .pointer (some ⟨b0, 0, none⟩), .int .i64 k, .pointer (some ⟨c0, 0, none⟩), .int .i64 k, .tuple #[.agg (vrow 66 q.at), .int .i64 k], .agg (vrow 66 p.at), .agg (vrow 66 p.at), .agg (vrow 3 (drAt x y n)), .agg (vrow 3 (drAt x y n)), .tuple #[.agg (vrow 66 q.at), .int .i64 k], .agg (vrow 66 q.at), .int .i64 k, .tuple #[.agg (vrow 66 q.at), .int .i64 k], .agg (vrow 66 p.at), .agg (vrow 66 p.at), .agg (vrow 3 (drAt x y n)), .agg (vrow 3 (drAt x y n)), .tuple #[.agg (vrow 66 q.at), .int .i64 k], .agg (vrow 66 q.at), .int .i64 k, undef, undef, undef, undef, undef, undef, undef, undef, undef], defers := [] } ∧ (Below w.heap.size w W' ∧ W'.heap[w.heap.size]? = some (.cells (vrow 66 p.at) 58) ∧ W'.heap[w.heap.size + 1]? = some (.cells (vrow 3 (drAt x y n)) 60) ∧ W'.heap[b0]? = some (.cells (vrow 66 q.at) 61)) ∧ W'.heap[c0]? = some (.cells (vrow 66 q.at) 61)) ?_ ?_
  rotate_left
  · refine region_gen (fun O hO => ?_)
    obtain ⟨SS, hSS⟩ : ∃ zS : World → Prop, zS = (fun W' => Below w.heap.size w W' ∧ W'.heap[w.heap.size]? = some (.cells (vrow 66 p.at) 58) ∧ W'.heap[w.heap.size + 1]? = some (.cells (vrow 3 (drAt x y n)) 60) ∧ W'.heap[b0]? = some (.cells (vrow 66 q.at) 61)) := ⟨_, rfl⟩
    obtain ⟨QQ, hQQ⟩ : ∃ zQ : Exit → Act → World → Prop, zQ = (fun e a' W' => e = .normal ∧ ∃ c0, a' = { tmps := #[.agg (vrow 66 p.at), .agg (vrow 3 (drAt x y n)), .pointer (some ⟨w.heap.size, 0, none⟩), .pointer (some ⟨w.heap.size + 1, 0, none⟩), .bool false, .pointer (some ⟨b0, 0, none⟩), .int .i64 k, .pointer (some ⟨c0, 0, none⟩), .int .i64 k, .tuple #[.agg (vrow 66 q.at), .int .i64 k], .agg (vrow 66 p.at), .agg (vrow 66 p.at), .agg (vrow 3 (drAt x y n)), .agg (vrow 3 (drAt x y n)), .tuple #[.agg (vrow 66 q.at), .int .i64 k], .agg (vrow 66 q.at), .int .i64 k, .tuple #[.agg (vrow 66 q.at), .int .i64 k], .agg (vrow 66 p.at), .agg (vrow 66 p.at), .agg (vrow 3 (drAt x y n)), .agg (vrow 3 (drAt x y n)), .tuple #[.agg (vrow 66 q.at), .int .i64 k], .agg (vrow 66 q.at), .int .i64 k, undef, undef, undef, undef, undef, undef, undef, undef, undef], defers := [] } ∧ (Below w.heap.size w W' ∧ W'.heap[w.heap.size]? = some (.cells (vrow 66 p.at) 58) ∧ W'.heap[w.heap.size + 1]? = some (.cells (vrow 3 (drAt x y n)) 60) ∧ W'.heap[b0]? = some (.cells (vrow 66 q.at) 61)) ∧ W'.heap[c0]? = some (.cells (vrow 66 q.at) 61)) := ⟨_, rfl⟩
    rw [← hQQ]
    have M3_1 : ∀ (W : World) (c0 : Nat), (Below w.heap.size w W ∧ W.heap[w.heap.size]? = some (.cells (vrow 66 p.at) 58) ∧ W.heap[w.heap.size + 1]? = some (.cells (vrow 3 (drAt x y n)) 60) ∧ W.heap[b0]? = some (.cells (vrow 66 q.at) 61)) → W.heap[c0]? = some (.cells (vrow 66 Pic.zero.at) 61) → w.heap.size < c0 → w.heap.size + 1 < c0 → b0 < c0 → wpAnyH Tryd.prog .any O QQ SS 2 #[true, true, true, true, true, true, true, true, true, false, false] { tmps := #[.agg (vrow 66 p.at), .agg (vrow 3 (drAt x y n)), .pointer (some ⟨w.heap.size, 0, none⟩), .pointer (some ⟨w.heap.size + 1, 0, none⟩), .bool false, .pointer (some ⟨b0, 0, none⟩), .int .i64 k, .pointer (some ⟨c0, 0, none⟩), undef, .tuple #[.agg (vrow 66 q.at), .int .i64 k], .agg (vrow 66 p.at), .agg (vrow 66 p.at), .agg (vrow 3 (drAt x y n)), .agg (vrow 3 (drAt x y n)), .tuple #[.agg (vrow 66 q.at), .int .i64 k], .agg (vrow 66 q.at), .int .i64 k, .tuple #[.agg (vrow 66 q.at), .int .i64 k], .agg (vrow 66 p.at), .agg (vrow 66 p.at), .agg (vrow 3 (drAt x y n)), .agg (vrow 3 (drAt x y n)), .tuple #[.agg (vrow 66 q.at), .int .i64 k], .agg (vrow 66 q.at), .int .i64 k, undef, undef, undef, undef, undef, undef, undef, undef, undef], defers := [] } W := by
      intro W c0 hH V0 n0_0 n0_1 n0_2
      subst hO hSS hQQ
      refine wpAnyH_ready (rs := [9]) (by kernel_rfl) (by simp) (AllReadyH.cons rfl (fun K hK => ?_) AllReadyH.nil)
      rw [if_pos (by rfl)]
      unfold Oper.wp
      rw [run_storemid 61 (.tmp 7) (.tmp 23) rfl c0 0 rfl 66 66 Pic.zero.at q.at rfl 61 size_pic V0 (by omega) (fun i _ => Pic.one _ i), vrow_over_all, Oper.upon_skip]
      replace V0 := row_set V0 (vrow 66 q.at)
      have hH2 : Below w.heap.size w (W.setRow c0 (vrow 66 q.at)) ∧ (W.setRow c0 (vrow 66 q.at)).heap[w.heap.size]? = some (.cells (vrow 66 p.at) 58) ∧ (W.setRow c0 (vrow 66 q.at)).heap[w.heap.size + 1]? = some (.cells (vrow 3 (drAt x y n)) 60) ∧ (W.setRow c0 (vrow 66 q.at)).heap[b0]? = some (.cells (vrow 66 q.at) 61) := ⟨Below_setRow hH.1 (by omega) _, row_set' (by omega) hH.2.1 _, row_set' (by omega) hH.2.2.1 _, row_set' (by omega) hH.2.2.2 _⟩
      refine hK.out _ _ hH2 (fun hH => ?_)
      clear hK K hH2
      (try simp only [Act.put, List.setIfInBounds_toArray, List.set_cons_succ, List.set_cons_zero])
      generalize (W.setRow c0 (vrow 66 q.at)) = Y0 at hH V0 ⊢
      refine wpAnyH_take (i := 10) (v := (.int .i64 k)) rfl (by kernel_rfl) (by kernel_rfl) (by kernel_rfl) (fun _ _ _ h => by cases h.1) (.inl ⟨by rfl, fun w _ => by go_simp⟩) hH ?_
      (try simp only [Act.put, List.setIfInBounds_toArray, List.set_cons_succ, List.set_cons_zero])
      refine wpAnyH_done (by kernel_rfl) ?_ _
      exact ⟨rfl, c0, rfl, hH, V0⟩
    have M3_0 : ∀ (W : World), (Below w.heap.size w W ∧ W.heap[w.heap.size]? = some (.cells (vrow 66 p.at) 58) ∧ W.heap[w.heap.size + 1]? = some (.cells (vrow 3 (drAt x y n)) 60) ∧ W.heap[b0]? = some (.cells (vrow 66 q.at) 61)) → wpAnyH Tryd.prog .any O QQ SS 3 #[true, true, true, true, true, true, true, true, false, false, false] { tmps := #[.agg (vrow 66 p.at), .agg (vrow 3 (drAt x y n)), .pointer (some ⟨w.heap.size, 0, none⟩), .pointer (some ⟨w.heap.size + 1, 0, none⟩), .bool false, .pointer (some ⟨b0, 0, none⟩), .int .i64 k, undef, undef, .tuple #[.agg (vrow 66 q.at), .int .i64 k], .agg (vrow 66 p.at), .agg (vrow 66 p.at), .agg (vrow 3 (drAt x y n)), .agg (vrow 3 (drAt x y n)), .tuple #[.agg (vrow 66 q.at), .int .i64 k], .agg (vrow 66 q.at), .int .i64 k, .tuple #[.agg (vrow 66 q.at), .int .i64 k], .agg (vrow 66 p.at), .agg (vrow 66 p.at), .agg (vrow 3 (drAt x y n)), .agg (vrow 3 (drAt x y n)), .tuple #[.agg (vrow 66 q.at), .int .i64 k], .agg (vrow 66 q.at), .int .i64 k, undef, undef, undef, undef, undef, undef, undef, undef, undef], defers := [] } W := by
      intro W hH
      subst hO hSS hQQ
      refine wpAnyH_ready (rs := [8]) (by kernel_rfl) (by simp) (AllReadyH.cons rfl (fun K hK => ?_) AllReadyH.nil)
      · rw [if_pos (by rfl)]
        go_simp
        try simp only [sp_vrow]
        have V := heap_at W (.cells (vrow 66 Pic.zero.at) 61) _ rfl
        have m0 := row_lt hH.2.1
        have m1 := row_lt hH.2.2.1
        have m2 := row_lt hH.2.2.2
        replace hH : Below w.heap.size w (W.alloc (.cells (vrow 66 Pic.zero.at) 61)) ∧ (W.alloc (.cells (vrow 66 Pic.zero.at) 61)).heap[w.heap.size]? = some (.cells (vrow 66 p.at) 58) ∧ (W.alloc (.cells (vrow 66 Pic.zero.at) 61)).heap[w.heap.size + 1]? = some (.cells (vrow 3 (drAt x y n)) 60) ∧ (W.alloc (.cells (vrow 66 Pic.zero.at) 61)).heap[b0]? = some (.cells (vrow 66 q.at) 61) := ⟨hH.1.alloc hH.1.size _, heap_past _ _ _ _ m0 hH.2.1, heap_past _ _ _ _ m1 hH.2.2.1, heap_past _ _ _ _ m2 hH.2.2.2⟩
        refine hK.out _ _ hH (fun hH => ?_)
        clear hK K
        (try simp only [Act.put, List.setIfInBounds_toArray, List.set_cons_succ, List.set_cons_zero])
        refine wpAnyH_at 2 #[true, true, true, true, true, true, true, true, true, false, false] (by kernel_rfl) (by kernel_rfl) ?_
        exact M3_1 (W.alloc (.cells (vrow 66 Pic.zero.at) 61)) W.heap.size hH V m0 m1 m2
    have M2_1 : ∀ (W : World) (c0 : Nat), (Below w.heap.size w W ∧ W.heap[w.heap.size]? = some (.cells (vrow 66 p.at) 58) ∧ W.heap[w.heap.size + 1]? = some (.cells (vrow 3 (drAt x y n)) 60) ∧ W.heap[b0]? = some (.cells (vrow 66 q.at) 61)) → W.heap[c0]? = some (.cells (vrow 66 Pic.zero.at) 61) → w.heap.size < c0 → w.heap.size + 1 < c0 → b0 < c0 → wpAnyH Tryd.prog .any O QQ SS 6 #[true, true, true, true, false, false, false, false, true, false, false] { tmps := #[.agg (vrow 66 p.at), .agg (vrow 3 (drAt x y n)), .pointer (some ⟨w.heap.size, 0, none⟩), .pointer (some ⟨w.heap.size + 1, 0, none⟩), .bool false, .pointer (some ⟨b0, 0, none⟩), .int .i64 k, .pointer (some ⟨c0, 0, none⟩), undef, .tuple #[.agg (vrow 66 q.at), .int .i64 k], .agg (vrow 66 p.at), .agg (vrow 66 p.at), .agg (vrow 3 (drAt x y n)), .agg (vrow 3 (drAt x y n)), .tuple #[.agg (vrow 66 q.at), .int .i64 k], .agg (vrow 66 q.at), .int .i64 k, undef, .agg (vrow 66 p.at), .agg (vrow 66 p.at), .agg (vrow 3 (drAt x y n)), .agg (vrow 3 (drAt x y n)), undef, undef, undef, undef, undef, undef, undef, undef, undef, undef, undef, undef], defers := [] } W := by
      intro W c0 hH V0 n0_0 n0_1 n0_2
      subst hO hSS hQQ
      refine wpAnyH_ready (rs := [4]) (by kernel_rfl) (by simp) (AllReadyH.cons rfl (fun K hK => ?_) AllReadyH.nil)
      · rw [if_pos (by rfl)]
        go_simp
        go_at_call 30
        refine (HI.out _ (hE.next hH.1)).mono ?_
        rintro o X ⟨rfl, hb⟩
        replace hH : Below w.heap.size w X ∧ X.heap[w.heap.size]? = some (.cells (vrow 66 p.at) 58) ∧ X.heap[w.heap.size + 1]? = some (.cells (vrow 3 (drAt x y n)) 60) ∧ X.heap[b0]? = some (.cells (vrow 66 q.at) 61) := ⟨hH.1.trans (hb.mono hH.1.size), row_next hb hH.2.1, row_next hb hH.2.2.1, row_next hb hH.2.2.2⟩
        replace V0 := row_next hb V0
        clear hb
        refine hK.out _ _ hH (fun hH => ?_)
        clear hK K
        (try simp only [Act.put, List.setIfInBounds_toArray, List.set_cons_succ, List.set_cons_zero])
        refine wpAnyH_take (i := 5) (v := (.tuple #[.agg (vrow 66 q.at), .int .i64 k])) rfl (by kernel_rfl) (by kernel_rfl) (by kernel_rfl) (fun _ _ _ h => by cases h.1) (.inl ⟨by rfl, fun w _ => by go_simp⟩) hH ?_
        (try simp only [Act.put, List.setIfInBounds_toArray, List.set_cons_succ, List.set_cons_zero])
        refine wpAnyH_take (i := 6) (v := (.agg (vrow 66 q.at))) rfl (by kernel_rfl) (by kernel_rfl) (by kernel_rfl) (fun _ _ _ h => by cases h.1) (.inl ⟨by rfl, fun w _ => by go_simp⟩) hH ?_
        (try simp only [Act.put, List.setIfInBounds_toArray, List.set_cons_succ, List.set_cons_zero])
        refine wpAnyH_take (i := 7) (v := (.int .i64 k)) rfl (by kernel_rfl) (by kernel_rfl) (by kernel_rfl) (fun _ _ _ h => by cases h.1) (.inl ⟨by rfl, fun w _ => by go_simp⟩) hH ?_
        (try simp only [Act.put, List.setIfInBounds_toArray, List.set_cons_succ, List.set_cons_zero])
        refine wpAnyH_at 2 #[true, true, true, true, true, true, true, true, true, false, false] (by kernel_rfl) (by kernel_rfl) ?_
        exact M3_1 X c0 hH V0 n0_0 n0_1 n0_2
    have M2_0 : ∀ (W : World), (Below w.heap.size w W ∧ W.heap[w.heap.size]? = some (.cells (vrow 66 p.at) 58) ∧ W.heap[w.heap.size + 1]? = some (.cells (vrow 3 (drAt x y n)) 60) ∧ W.heap[b0]? = some (.cells (vrow 66 q.at) 61)) → wpAnyH Tryd.prog .any O QQ SS 7 #[true, true, true, true, false, false, false, false, false, false, false] { tmps := #[.agg (vrow 66 p.at), .agg (vrow 3 (drAt x y n)), .pointer (some ⟨w.heap.size, 0, none⟩), .pointer (some ⟨w.heap.size + 1, 0, none⟩), .bool false, .pointer (some ⟨b0, 0, none⟩), .int .i64 k, undef, undef, .tuple #[.agg (vrow 66 q.at), .int .i64 k], .agg (vrow 66 p.at), .agg (vrow 66 p.at), .agg (vrow 3 (drAt x y n)), .agg (vrow 3 (drAt x y n)), .tuple #[.agg (vrow 66 q.at), .int .i64 k], .agg (vrow 66 q.at), .int .i64 k, undef, .agg (vrow 66 p.at), .agg (vrow 66 p.at), .agg (vrow 3 (drAt x y n)), .agg (vrow 3 (drAt x y n)), undef, undef, undef, undef, undef, undef, undef, undef, undef, undef, undef, undef], defers := [] } W := by
      intro W hH
      subst hO hSS hQQ
      refine wpAnyH_ready (rs := [4, 8]) (by kernel_rfl) (by simp) (AllReadyH.cons rfl (fun K hK => ?_) (AllReadyH.cons rfl (fun K hK => ?_) AllReadyH.nil))
      · rw [if_pos (by rfl)]
        go_simp
        go_at_call 30
        refine (HI.out _ (hE.next hH.1)).mono ?_
        rintro o X ⟨rfl, hb⟩
        replace hH : Below w.heap.size w X ∧ X.heap[w.heap.size]? = some (.cells (vrow 66 p.at) 58) ∧ X.heap[w.heap.size + 1]? = some (.cells (vrow 3 (drAt x y n)) 60) ∧ X.heap[b0]? = some (.cells (vrow 66 q.at) 61) := ⟨hH.1.trans (hb.mono hH.1.size), row_next hb hH.2.1, row_next hb hH.2.2.1, row_next hb hH.2.2.2⟩
        clear hb
        refine hK.out _ _ hH (fun hH => ?_)
        clear hK K
        (try simp only [Act.put, List.setIfInBounds_toArray, List.set_cons_succ, List.set_cons_zero])
        refine wpAnyH_take (i := 5) (v := (.tuple #[.agg (vrow 66 q.at), .int .i64 k])) rfl (by kernel_rfl) (by kernel_rfl) (by kernel_rfl) (fun _ _ _ h => by cases h.1) (.inl ⟨by rfl, fun w _ => by go_simp⟩) hH ?_
        (try simp only [Act.put, List.setIfInBounds_toArray, List.set_cons_succ, List.set_cons_zero])
        refine wpAnyH_take (i := 6) (v := (.agg (vrow 66 q.at))) rfl (by kernel_rfl) (by kernel_rfl) (by kernel_rfl) (fun _ _ _ h => by cases h.1) (.inl ⟨by rfl, fun w _ => by go_simp⟩) hH ?_
        (try simp only [Act.put, List.setIfInBounds_toArray, List.set_cons_succ, List.set_cons_zero])
        refine wpAnyH_take (i := 7) (v := (.int .i64 k)) rfl (by kernel_rfl) (by kernel_rfl) (by kernel_rfl) (fun _ _ _ h => by cases h.1) (.inl ⟨by rfl, fun w _ => by go_simp⟩) hH ?_
        (try simp only [Act.put, List.setIfInBounds_toArray, List.set_cons_succ, List.set_cons_zero])
        refine wpAnyH_at 3 #[true, true, true, true, true, true, true, true, false, false, false] (by kernel_rfl) (by kernel_rfl) ?_
        exact M3_0 X  hH
      · rw [if_pos (by rfl)]
        go_simp
        try simp only [sp_vrow]
        have V := heap_at W (.cells (vrow 66 Pic.zero.at) 61) _ rfl
        have m0 := row_lt hH.2.1
        have m1 := row_lt hH.2.2.1
        have m2 := row_lt hH.2.2.2
        replace hH : Below w.heap.size w (W.alloc (.cells (vrow 66 Pic.zero.at) 61)) ∧ (W.alloc (.cells (vrow 66 Pic.zero.at) 61)).heap[w.heap.size]? = some (.cells (vrow 66 p.at) 58) ∧ (W.alloc (.cells (vrow 66 Pic.zero.at) 61)).heap[w.heap.size + 1]? = some (.cells (vrow 3 (drAt x y n)) 60) ∧ (W.alloc (.cells (vrow 66 Pic.zero.at) 61)).heap[b0]? = some (.cells (vrow 66 q.at) 61) := ⟨hH.1.alloc hH.1.size _, heap_past _ _ _ _ m0 hH.2.1, heap_past _ _ _ _ m1 hH.2.2.1, heap_past _ _ _ _ m2 hH.2.2.2⟩
        refine hK.out _ _ hH (fun hH => ?_)
        clear hK K
        (try simp only [Act.put, List.setIfInBounds_toArray, List.set_cons_succ, List.set_cons_zero])
        refine wpAnyH_at 6 #[true, true, true, true, false, false, false, false, true, false, false] (by kernel_rfl) (by kernel_rfl) ?_
        exact M2_1 (W.alloc (.cells (vrow 66 Pic.zero.at) 61)) W.heap.size hH V m0 m1 m2
    have M1_1 : ∀ (W : World) (c0 : Nat), (Below w.heap.size w W ∧ W.heap[w.heap.size]? = some (.cells (vrow 66 p.at) 58) ∧ W.heap[w.heap.size + 1]? = some (.cells (vrow 3 (drAt x y n)) 60) ∧ W.heap[b0]? = some (.cells (vrow 66 q.at) 61)) → W.heap[c0]? = some (.cells (vrow 66 Pic.zero.at) 61) → w.heap.size < c0 → w.heap.size + 1 < c0 → b0 < c0 → wpAnyH Tryd.prog .any O QQ SS 7 #[true, true, true, false, false, false, false, false, true, false, false] { tmps := #[.agg (vrow 66 p.at), .agg (vrow 3 (drAt x y n)), .pointer (some ⟨w.heap.size, 0, none⟩), .pointer (some ⟨w.heap.size + 1, 0, none⟩), .bool false, .pointer (some ⟨b0, 0, none⟩), .int .i64 k, .pointer (some ⟨c0, 0, none⟩), undef, .tuple #[.agg (vrow 66 q.at), .int .i64 k], .agg (vrow 66 p.at), .agg (vrow 66 p.at), .agg (vrow 3 (drAt x y n)), .agg (vrow 3 (drAt x y n)), .tuple #[.agg (vrow 66 q.at), .int .i64 k], .agg (vrow 66 q.at), .int .i64 k, undef, .agg (vrow 66 p.at), .agg (vrow 66 p.at), .agg (vrow 3 (drAt x y n)), undef, undef, undef, undef, undef, undef, undef, undef, undef, undef, undef, undef, undef], defers := [] } W := by
      intro W c0 hH V0 n0_0 n0_1 n0_2
      subst hO hSS hQQ
      refine wpAnyH_ready (rs := [3]) (by kernel_rfl) (by simp) (AllReadyH.cons rfl (fun K hK => ?_) AllReadyH.nil)
      · rw [if_pos (by rfl)]
        go_simp
        go_at_call 29
        refine (HT1.out _).mono ?_
        rintro o X ⟨rfl, hb⟩
        replace hH : Below w.heap.size w X ∧ X.heap[w.heap.size]? = some (.cells (vrow 66 p.at) 58) ∧ X.heap[w.heap.size + 1]? = some (.cells (vrow 3 (drAt x y n)) 60) ∧ X.heap[b0]? = some (.cells (vrow 66 q.at) 61) := ⟨hH.1.trans (hb.mono hH.1.size), row_next hb hH.2.1, row_next hb hH.2.2.1, row_next hb hH.2.2.2⟩
        replace V0 := row_next hb V0
        clear hb
        refine hK.out _ _ hH (fun hH => ?_)
        clear hK K
        (try simp only [Act.put, List.setIfInBounds_toArray, List.set_cons_succ, List.set_cons_zero])
        refine wpAnyH_at 6 #[true, true, true, true, false, false, false, false, true, false, false] (by kernel_rfl) (by kernel_rfl) ?_
        exact M2_1 X c0 hH V0 n0_0 n0_1 n0_2
    have M1_0 : ∀ (W : World), (Below w.heap.size w W ∧ W.heap[w.heap.size]? = some (.cells (vrow 66 p.at) 58) ∧ W.heap[w.heap.size + 1]? = some (.cells (vrow 3 (drAt x y n)) 60) ∧ W.heap[b0]? = some (.cells (vrow 66 q.at) 61)) → wpAnyH Tryd.prog .any O QQ SS 8 #[true, true, true, false, false, false, false, false, false, false, false] { tmps := #[.agg (vrow 66 p.at), .agg (vrow 3 (drAt x y n)), .pointer (some ⟨w.heap.size, 0, none⟩), .pointer (some ⟨w.heap.size + 1, 0, none⟩), .bool false, .pointer (some ⟨b0, 0, none⟩), .int .i64 k, undef, undef, .tuple #[.agg (vrow 66 q.at), .int .i64 k], .agg (vrow 66 p.at), .agg (vrow 66 p.at), .agg (vrow 3 (drAt x y n)), .agg (vrow 3 (drAt x y n)), .tuple #[.agg (vrow 66 q.at), .int .i64 k], .agg (vrow 66 q.at), .int .i64 k, undef, .agg (vrow 66 p.at), .agg (vrow 66 p.at), .agg (vrow 3 (drAt x y n)), undef, undef, undef, undef, undef, undef, undef, undef, undef, undef, undef, undef, undef], defers := [] } W := by
      intro W hH
      subst hO hSS hQQ
      refine wpAnyH_ready (rs := [3, 8]) (by kernel_rfl) (by simp) (AllReadyH.cons rfl (fun K hK => ?_) (AllReadyH.cons rfl (fun K hK => ?_) AllReadyH.nil))
      · rw [if_pos (by rfl)]
        go_simp
        go_at_call 29
        refine (HT1.out _).mono ?_
        rintro o X ⟨rfl, hb⟩
        replace hH : Below w.heap.size w X ∧ X.heap[w.heap.size]? = some (.cells (vrow 66 p.at) 58) ∧ X.heap[w.heap.size + 1]? = some (.cells (vrow 3 (drAt x y n)) 60) ∧ X.heap[b0]? = some (.cells (vrow 66 q.at) 61) := ⟨hH.1.trans (hb.mono hH.1.size), row_next hb hH.2.1, row_next hb hH.2.2.1, row_next hb hH.2.2.2⟩
        clear hb
        refine hK.out _ _ hH (fun hH => ?_)
        clear hK K
        (try simp only [Act.put, List.setIfInBounds_toArray, List.set_cons_succ, List.set_cons_zero])
        refine wpAnyH_at 7 #[true, true, true, true, false, false, false, false, false, false, false] (by kernel_rfl) (by kernel_rfl) ?_
        exact M2_0 X  hH
      · rw [if_pos (by rfl)]
        go_simp
        try simp only [sp_vrow]
        have V := heap_at W (.cells (vrow 66 Pic.zero.at) 61) _ rfl
        have m0 := row_lt hH.2.1
        have m1 := row_lt hH.2.2.1
        have m2 := row_lt hH.2.2.2
        replace hH : Below w.heap.size w (W.alloc (.cells (vrow 66 Pic.zero.at) 61)) ∧ (W.alloc (.cells (vrow 66 Pic.zero.at) 61)).heap[w.heap.size]? = some (.cells (vrow 66 p.at) 58) ∧ (W.alloc (.cells (vrow 66 Pic.zero.at) 61)).heap[w.heap.size + 1]? = some (.cells (vrow 3 (drAt x y n)) 60) ∧ (W.alloc (.cells (vrow 66 Pic.zero.at) 61)).heap[b0]? = some (.cells (vrow 66 q.at) 61) := ⟨hH.1.alloc hH.1.size _, heap_past _ _ _ _ m0 hH.2.1, heap_past _ _ _ _ m1 hH.2.2.1, heap_past _ _ _ _ m2 hH.2.2.2⟩
        refine hK.out _ _ hH (fun hH => ?_)
        clear hK K
        (try simp only [Act.put, List.setIfInBounds_toArray, List.set_cons_succ, List.set_cons_zero])
        refine wpAnyH_at 7 #[true, true, true, false, false, false, false, false, true, false, false] (by kernel_rfl) (by kernel_rfl) ?_
        exact M1_1 (W.alloc (.cells (vrow 66 Pic.zero.at) 61)) W.heap.size hH V m0 m1 m2
    have M0_1 : ∀ (W : World) (c0 : Nat), (Below w.heap.size w W ∧ W.heap[w.heap.size]? = some (.cells (vrow 66 p.at) 58) ∧ W.heap[w.heap.size + 1]? = some (.cells (vrow 3 (drAt x y n)) 60) ∧ W.heap[b0]? = some (.cells (vrow 66 q.at) 61)) → W.heap[c0]? = some (.cells (vrow 66 Pic.zero.at) 61) → w.heap.size < c0 → w.heap.size + 1 < c0 → b0 < c0 → wpAnyH Tryd.prog .any O QQ SS 8 #[true, false, true, false, false, false, false, false, true, false, false] { tmps := #[.agg (vrow 66 p.at), .agg (vrow 3 (drAt x y n)), .pointer (some ⟨w.heap.size, 0, none⟩), .pointer (some ⟨w.heap.size + 1, 0, none⟩), .bool false, .pointer (some ⟨b0, 0, none⟩), .int .i64 k, .pointer (some ⟨c0, 0, none⟩), undef, .tuple #[.agg (vrow 66 q.at), .int .i64 k], .agg (vrow 66 p.at), .agg (vrow 66 p.at), .agg (vrow 3 (drAt x y n)), .agg (vrow 3 (drAt x y n)), .tuple #[.agg (vrow 66 q.at), .int .i64 k], .agg (vrow 66 q.at), .int .i64 k, undef, .agg (vrow 66 p.at), undef, .agg (vrow 3 (drAt x y n)), undef, undef, undef, undef, undef, undef, undef, undef, undef, undef, undef, undef, undef], defers := [] } W := by
      intro W c0 hH V0 n0_0 n0_1 n0_2
      subst hO hSS hQQ
      refine wpAnyH_ready (rs := [1]) (by kernel_rfl) (by simp) (AllReadyH.cons rfl (fun K hK => ?_) AllReadyH.nil)
      · rw [if_pos (by rfl)]
        go_simp
        go_at_call 28
        refine (HT0.out _).mono ?_
        rintro o X ⟨rfl, hb⟩
        replace hH : Below w.heap.size w X ∧ X.heap[w.heap.size]? = some (.cells (vrow 66 p.at) 58) ∧ X.heap[w.heap.size + 1]? = some (.cells (vrow 3 (drAt x y n)) 60) ∧ X.heap[b0]? = some (.cells (vrow 66 q.at) 61) := ⟨hH.1.trans (hb.mono hH.1.size), row_next hb hH.2.1, row_next hb hH.2.2.1, row_next hb hH.2.2.2⟩
        replace V0 := row_next hb V0
        clear hb
        refine hK.out _ _ hH (fun hH => ?_)
        clear hK K
        (try simp only [Act.put, List.setIfInBounds_toArray, List.set_cons_succ, List.set_cons_zero])
        refine wpAnyH_at 7 #[true, true, true, false, false, false, false, false, true, false, false] (by kernel_rfl) (by kernel_rfl) ?_
        exact M1_1 X c0 hH V0 n0_0 n0_1 n0_2
    have M0_0 : ∀ (W : World), (Below w.heap.size w W ∧ W.heap[w.heap.size]? = some (.cells (vrow 66 p.at) 58) ∧ W.heap[w.heap.size + 1]? = some (.cells (vrow 3 (drAt x y n)) 60) ∧ W.heap[b0]? = some (.cells (vrow 66 q.at) 61)) → wpAnyH Tryd.prog .any O QQ SS 9 #[true, false, true, false, false, false, false, false, false, false, false] { tmps := #[.agg (vrow 66 p.at), .agg (vrow 3 (drAt x y n)), .pointer (some ⟨w.heap.size, 0, none⟩), .pointer (some ⟨w.heap.size + 1, 0, none⟩), .bool false, .pointer (some ⟨b0, 0, none⟩), .int .i64 k, undef, undef, .tuple #[.agg (vrow 66 q.at), .int .i64 k], .agg (vrow 66 p.at), .agg (vrow 66 p.at), .agg (vrow 3 (drAt x y n)), .agg (vrow 3 (drAt x y n)), .tuple #[.agg (vrow 66 q.at), .int .i64 k], .agg (vrow 66 q.at), .int .i64 k, undef, .agg (vrow 66 p.at), undef, .agg (vrow 3 (drAt x y n)), undef, undef, undef, undef, undef, undef, undef, undef, undef, undef, undef, undef, undef], defers := [] } W := by
      intro W hH
      subst hO hSS hQQ
      refine wpAnyH_ready (rs := [1, 8]) (by kernel_rfl) (by simp) (AllReadyH.cons rfl (fun K hK => ?_) (AllReadyH.cons rfl (fun K hK => ?_) AllReadyH.nil))
      · rw [if_pos (by rfl)]
        go_simp
        go_at_call 28
        refine (HT0.out _).mono ?_
        rintro o X ⟨rfl, hb⟩
        replace hH : Below w.heap.size w X ∧ X.heap[w.heap.size]? = some (.cells (vrow 66 p.at) 58) ∧ X.heap[w.heap.size + 1]? = some (.cells (vrow 3 (drAt x y n)) 60) ∧ X.heap[b0]? = some (.cells (vrow 66 q.at) 61) := ⟨hH.1.trans (hb.mono hH.1.size), row_next hb hH.2.1, row_next hb hH.2.2.1, row_next hb hH.2.2.2⟩
        clear hb
        refine hK.out _ _ hH (fun hH => ?_)
        clear hK K
        (try simp only [Act.put, List.setIfInBounds_toArray, List.set_cons_succ, List.set_cons_zero])
        refine wpAnyH_at 8 #[true, true, true, false, false, false, false, false, false, false, false] (by kernel_rfl) (by kernel_rfl) ?_
        exact M1_0 X  hH
      · rw [if_pos (by rfl)]
        go_simp
        try simp only [sp_vrow]
        have V := heap_at W (.cells (vrow 66 Pic.zero.at) 61) _ rfl
        have m0 := row_lt hH.2.1
        have m1 := row_lt hH.2.2.1
        have m2 := row_lt hH.2.2.2
        replace hH : Below w.heap.size w (W.alloc (.cells (vrow 66 Pic.zero.at) 61)) ∧ (W.alloc (.cells (vrow 66 Pic.zero.at) 61)).heap[w.heap.size]? = some (.cells (vrow 66 p.at) 58) ∧ (W.alloc (.cells (vrow 66 Pic.zero.at) 61)).heap[w.heap.size + 1]? = some (.cells (vrow 3 (drAt x y n)) 60) ∧ (W.alloc (.cells (vrow 66 Pic.zero.at) 61)).heap[b0]? = some (.cells (vrow 66 q.at) 61) := ⟨hH.1.alloc hH.1.size _, heap_past _ _ _ _ m0 hH.2.1, heap_past _ _ _ _ m1 hH.2.2.1, heap_past _ _ _ _ m2 hH.2.2.2⟩
        refine hK.out _ _ hH (fun hH => ?_)
        clear hK K
        (try simp only [Act.put, List.setIfInBounds_toArray, List.set_cons_succ, List.set_cons_zero])
        refine wpAnyH_at 8 #[true, false, true, false, false, false, false, false, true, false, false] (by kernel_rfl) (by kernel_rfl) ?_
        exact M0_1 (W.alloc (.cells (vrow 66 Pic.zero.at) 61)) W.heap.size hH V m0 m1 m2
    subst hO hSS hQQ
    refine wp_region_held_drew (S := fun W' => Below w.heap.size w W' ∧ W'.heap[w.heap.size]? = some (.cells (vrow 66 p.at) 58) ∧ W'.heap[w.heap.size + 1]? = some (.cells (vrow 3 (drAt x y n)) 60) ∧ W'.heap[b0]? = some (.cells (vrow 66 q.at) 61)) (by kernel_rfl) ⟨hB.out.drew, P0.out, P1.out, U0.out⟩ (fun hH => ?_)
    generalize World.drew _ = W at hH ⊢
    refine wpAnyH_take (i := 0) (v := (.agg (vrow 66 p.at))) rfl (by kernel_rfl) (by kernel_rfl) (by kernel_rfl) (fun _ _ _ h => by cases h.1) (yields_row (by rfl) 58 _ rfl (w.heap.size) rfl 66 p.at 58 _ Tryd.underlying58 rfl size_lpic (fun _ h => h.2.1)) hH ?_
    (try simp only [Act.put, List.setIfInBounds_toArray, List.set_cons_succ, List.set_cons_zero])
    refine wpAnyH_take (i := 2) (v := (.agg (vrow 3 (drAt x y n)))) rfl (by kernel_rfl) (by kernel_rfl) (by kernel_rfl) (fun _ _ _ h => by cases h.1) (yields_row (by rfl) 60 _ rfl (w.heap.size + 1) rfl 3 (drAt x y n) 60 _ Tryd.underlying60 rfl size_ldr2 (fun _ h => h.2.2.1)) hH ?_
    (try simp only [Act.put, List.setIfInBounds_toArray, List.set_cons_succ, List.set_cons_zero])
    refine wpAnyH_at 9 #[true, false, true, false, false, false, false, false, false, false, false] (by kernel_rfl) (by kernel_rfl) ?_
    exact M0_0 W hH
  rintro e2 a2 W2 ⟨rfl, c0, rfl, ⟨hB, P0, P1, U0⟩, V0⟩
  replace hB := Go.Lib.hid hB; replace P0 := Go.Lib.hid P0; replace P1 := Go.Lib.hid P1; replace U0 := Go.Lib.hid U0; replace V0 := Go.Lib.hid V0
  go_wp2_with (first
    | go_skip
    | ((with_reducible refine wlAt 25 rfl ?_); refine wpList_loadall rfl 61 (.tmp 7) rfl _ rfl 66 q.at 61 _ Tryd.underlying61 rfl size_pic V0.out ?_)
    | ((with_reducible refine wlAt 26 rfl ?_); refine wpList_loadall rfl 61 (.tmp 5) rfl _ rfl 66 q.at 61 _ Tryd.underlying61 rfl size_pic U0.out ?_)
    | (go_at_call 31; (first | (with_reducible refine (eqPicture_any q _).mono ?_)); rintro o w3 ⟨rfl, hb⟩; (try (replace U0 := Go.Lib.hid (row_next hb U0.out))); (try (replace V0 := Go.Lib.hid (row_next hb V0.out))); replace hB := Go.Lib.hid (below_next hB.out hb); clear hb))
  go_ret
  exact ⟨rfl, hB.out⟩
end Go.Proofs.YtfgcpiipndhllaaDoor
