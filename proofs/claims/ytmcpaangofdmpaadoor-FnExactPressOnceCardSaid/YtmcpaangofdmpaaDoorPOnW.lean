import Derived.Deep.RegionHeld3
import Derived.Test.YtmcpaangofdmpaaDoorFoV
import Derived.Test.YtmcpaangofdmpaaDoorCodeOf
import Derived.Test.YtmcpaangofdmpaaDoorEqSheet
import Derived.Test.YtmcpaangofdmpaaDoorG1
namespace Go.Proofs.YtmcpaangofdmpaaDoor
open Go.RowKit
set_option maxRecDepth 100000
set_option linter.unusedVariables false
set_option linter.unusedSimpArgs false
theorem toFoV_any (ax : Int) (d : Bool) (p : Int) (w : World) : Calls Tryd.prog 14 #[.agg (vrow 3 (foAt ax d p))] w fun e w' => e = .returned (.agg (vrow 3 (foAt ax d p))) ∧ Below w.heap.size w w' := toFold_any ax d p w
set_option maxHeartbeats 8000000 in
theorem ponL_walk (s : Sh) (ax : Int) (d : Bool) (p : Int) (r : Sh) (m : Int) (c : Int) (e : ErrE) (w : World) (hE : Errs e w)
    (hS : ∀ w, Calls Tryd.prog 12 #[.agg (vrow 266 s.at), .agg (vrow 3 (foAt ax d p))] w fun e w' => e = .returned (.tuple #[.agg (vrow 266 r.at), .int .i64 m, .int .i64 c]) ∧ Below w.heap.size w w')
    (hI : ∀ w, Errs e w → Calls Tryd.prog 15 #[.agg (vrow 266 s.at), .agg (vrow 3 (foAt ax d p))] w fun e w' => e = .returned (.tuple #[.agg (vrow 266 r.at), .int .i64 m, .int .i64 c]) ∧ Below w.heap.size w w') : Calls Tryd.prog 3 #[.agg (vrow 266 s.at), .agg (vrow 3 (foAt ax d p))] w fun o w' => o = .returned (.bool true) ∧ Below w.heap.size w w' := by
  have zz_sheet := zero_sheet
  have HT0 := Go.Lib.hid (fun w => toSheet_any s w)
  have HT1 := Go.Lib.hid (fun w => toFoV_any ax d p w)
  have HS := Go.Lib.hid hS; have HI := Go.Lib.hid hI
  clear hS hI
  have hB : Hid (Below w.heap.size w ((w.alloc (.cells (vrow 266 s.at) 31)).alloc (.cells (vrow 3 (foAt ax d p)) 33))) := (((Below.refl w.heap.size w).alloc (by simp <;> omega) _).alloc (by simp <;> omega) _)
  have P0 : Hid (((w.alloc (.cells (vrow 266 s.at) 31)).alloc (.cells (vrow 3 (foAt ax d p)) 33)).heap[w.heap.size]? = some (.cells (vrow 266 s.at) 31)) := heap_past _ _ _ _ (by first | omega | (simp <;> omega)) (heap_at _ _ _ (by simp))
  have P1 : Hid (((w.alloc (.cells (vrow 266 s.at) 31)).alloc (.cells (vrow 3 (foAt ax d p)) 33)).heap[w.heap.size + 1]? = some (.cells (vrow 3 (foAt ax d p)) 33)) := heap_at _ _ _ (by simp)
  go_enter Tryd.func3, Tryd.ntmps3
  go_wp2
  refine Code.wp_mono (Q := fun e a' W' => e = .normal ∧ ∃ b0, a' = { tmps := #[.agg (vrow 266 s.at), .agg (vrow 3 (foAt ax d p)), .pointer (some ⟨w.heap.size, 0, none⟩), .pointer (some ⟨w.heap.size + 1, 0, none⟩), .bool false, .pointer (some ⟨b0, 0, none⟩), .int .i64 m, .int .i64 c, undef, undef, undef, .tuple #[.agg (vrow 266 r.at), .int .i64 m, .int .i64 c], .agg (vrow 266 s.at), .agg (vrow 266 s.at), .agg (vrow 3 (foAt ax d p)), .agg (vrow 3 (foAt ax d p)), .tuple #[.agg (vrow 266 r.at), .int .i64 m, .int .i64 c], .agg (vrow 266 r.at), .int .i64 m, .int .i64 c, undef, undef, undef, undef, undef, undef, undef, undef, undef, undef, undef, undef, undef, undef, undef, undef, undef, undef, undef, undef, undef, undef, undef], defers := [] } ∧ (Below w.heap.size w W' ∧ W'.heap[w.heap.size]? = some (.cells (vrow 266 s.at) 31) ∧ W'.heap[w.heap.size + 1]? = some (.cells (vrow 3 (foAt ax d p)) 33)) ∧ W'.heap[b0]? = some (.cells (vrow 266 r.at) 34)) ?_ ?_
  rotate_left
  · refine region_gen (fun O hO => ?_)
    obtain ⟨SS, hSS⟩ : ∃ zS : World → Prop, zS = (fun W' => Below w.heap.size w W' ∧ W'.heap[w.heap.size]? = some (.cells (vrow 266 s.at) 31) ∧ W'.heap[w.heap.size + 1]? = some (.cells (vrow 3 (foAt ax d p)) 33)) := ⟨_, rfl⟩
    obtain ⟨QQ, hQQ⟩ : ∃ zQ : Exit → Act → World → Prop, zQ = (fun e a' W' => e = .normal ∧ ∃ b0, a' = { tmps := #[.agg (vrow 266 s.at), .agg (vrow 3 (foAt ax d p)), .pointer (some ⟨w.heap.size, 0, none⟩), .pointer (some ⟨w.heap.size + 1, 0, none⟩), .bool false, .pointer (some ⟨b0, 0, none⟩), .int .i64 m, .int .i64 c, undef, undef, undef, .tuple #[.agg (vrow 266 r.at), .int .i64 m, .int .i64 c], .agg (vrow 266 s.at), .agg (vrow 266 s.at), .agg (vrow 3 (foAt ax d p)), .agg (vrow 3 (foAt ax d p)), .tuple #[.agg (vrow 266 r.at), .int .i64 m, .int .i64 c], .agg (vrow 266 r.at), .int .i64 m, .int .i64 c, undef, undef, undef, undef, undef, undef, undef, undef, undef, undef, undef, undef, undef, undef, undef, undef, undef, undef, undef, undef, undef, undef, undef], defers := [] } ∧ (Below w.heap.size w W' ∧ W'.heap[w.heap.size]? = some (.cells (vrow 266 s.at) 31) ∧ W'.heap[w.heap.size + 1]? = some (.cells (vrow 3 (foAt ax d p)) 33)) ∧ W'.heap[b0]? = some (.cells (vrow 266 r.at) 34)) := ⟨_, rfl⟩
    rw [← hQQ]
    have N3_1 : ∀ (W : World) (b0 : Nat), (Below w.heap.size w W ∧ W.heap[w.heap.size]? = some (.cells (vrow 266 s.at) 31) ∧ W.heap[w.heap.size + 1]? = some (.cells (vrow 3 (foAt ax d p)) 33)) → W.heap[b0]? = some (.cells (vrow 266 Sh.zero.at) 34) → w.heap.size < b0 → w.heap.size + 1 < b0 → wpAnyH Tryd.prog .any O QQ SS 3 #[true, true, true, true, true, true, true, true, true, true, false, false, false] { tmps := #[.agg (vrow 266 s.at), .agg (vrow 3 (foAt ax d p)), .pointer (some ⟨w.heap.size, 0, none⟩), .pointer (some ⟨w.heap.size + 1, 0, none⟩), .bool false, .pointer (some ⟨b0, 0, none⟩), undef, undef, undef, undef, undef, .tuple #[.agg (vrow 266 r.at), .int .i64 m, .int .i64 c], .agg (vrow 266 s.at), .agg (vrow 266 s.at), .agg (vrow 3 (foAt ax d p)), .agg (vrow 3 (foAt ax d p)), .tuple #[.agg (vrow 266 r.at), .int .i64 m, .int .i64 c], .agg (vrow 266 r.at), .int .i64 m, .int .i64 c, undef, undef, undef, undef, undef, undef, undef, undef, undef, undef, undef, undef, undef, undef, undef, undef, undef, undef, undef, undef, undef, undef, undef], defers := [] } W := by
      intro W b0 hH V0 n0_0 n0_1
      subst hO hSS hQQ
      refine wpAnyH_ready (rs := [10]) (by kernel_rfl) (by simp) (AllReadyH.cons rfl (fun K hK => ?_) AllReadyH.nil)
      rw [if_pos (by rfl)]
      unfold Oper.wp
      rw [run_storemid 34 (.tmp 5) (.tmp 17) rfl b0 0 rfl 266 266 Sh.zero.at r.at rfl 34 size_sheet V0 (by omega) (fun i _ => Sh.one _ i), vrow_over_all, Oper.upon_skip]
      replace V0 := row_set V0 (vrow 266 r.at)
      have hH2 : Below w.heap.size w (W.setRow b0 (vrow 266 r.at)) ∧ (W.setRow b0 (vrow 266 r.at)).heap[w.heap.size]? = some (.cells (vrow 266 s.at) 31) ∧ (W.setRow b0 (vrow 266 r.at)).heap[w.heap.size + 1]? = some (.cells (vrow 3 (foAt ax d p)) 33) := ⟨Below_setRow hH.1 (by omega) _, row_set' (by omega) hH.2.1 _, row_set' (by omega) hH.2.2 _⟩
      refine hK.out _ _ hH2 (fun hH => ?_)
      clear hK K hH2
      (try simp only [Act.put, List.setIfInBounds_toArray, List.set_cons_succ, List.set_cons_zero])
      generalize (W.setRow b0 (vrow 266 r.at)) = Y0 at hH V0 ⊢
      refine wpAnyH_take (i := 11) (v := (.int .i64 m)) rfl (by kernel_rfl) (by kernel_rfl) (by kernel_rfl) (fun _ _ _ h => by cases h.1) (.inl ⟨by rfl, fun w _ => by go_simp⟩) hH ?_
      (try simp only [Act.put, List.setIfInBounds_toArray, List.set_cons_succ, List.set_cons_zero])
      refine wpAnyH_take (i := 12) (v := (.int .i64 c)) rfl (by kernel_rfl) (by kernel_rfl) (by kernel_rfl) (fun _ _ _ h => by cases h.1) (.inl ⟨by rfl, fun w _ => by go_simp⟩) hH ?_
      (try simp only [Act.put, List.setIfInBounds_toArray, List.set_cons_succ, List.set_cons_zero])
      refine wpAnyH_done (by kernel_rfl) ?_ _
      exact ⟨rfl, b0, rfl, hH, V0⟩
    have N3_0 : ∀ (W : World), (Below w.heap.size w W ∧ W.heap[w.heap.size]? = some (.cells (vrow 266 s.at) 31) ∧ W.heap[w.heap.size + 1]? = some (.cells (vrow 3 (foAt ax d p)) 33)) → wpAnyH Tryd.prog .any O QQ SS 4 #[true, true, true, true, true, true, true, true, true, false, false, false, false] { tmps := #[.agg (vrow 266 s.at), .agg (vrow 3 (foAt ax d p)), .pointer (some ⟨w.heap.size, 0, none⟩), .pointer (some ⟨w.heap.size + 1, 0, none⟩), .bool false, undef, undef, undef, undef, undef, undef, .tuple #[.agg (vrow 266 r.at), .int .i64 m, .int .i64 c], .agg (vrow 266 s.at), .agg (vrow 266 s.at), .agg (vrow 3 (foAt ax d p)), .agg (vrow 3 (foAt ax d p)), .tuple #[.agg (vrow 266 r.at), .int .i64 m, .int .i64 c], .agg (vrow 266 r.at), .int .i64 m, .int .i64 c, undef, undef, undef, undef, undef, undef, undef, undef, undef, undef, undef, undef, undef, undef, undef, undef, undef, undef, undef, undef, undef, undef, undef], defers := [] } W := by
      intro W hH
      subst hO hSS hQQ
      refine wpAnyH_ready (rs := [9]) (by kernel_rfl) (by simp) (AllReadyH.cons rfl (fun K hK => ?_) AllReadyH.nil)
      · rw [if_pos (by rfl)]
        go_simp
        try simp only [sp_vrow]
        have V := heap_at W (.cells (vrow 266 Sh.zero.at) 34) _ rfl
        have m0 := row_lt hH.2.1
        have m1 := row_lt hH.2.2
        replace hH : Below w.heap.size w (W.alloc (.cells (vrow 266 Sh.zero.at) 34)) ∧ (W.alloc (.cells (vrow 266 Sh.zero.at) 34)).heap[w.heap.size]? = some (.cells (vrow 266 s.at) 31) ∧ (W.alloc (.cells (vrow 266 Sh.zero.at) 34)).heap[w.heap.size + 1]? = some (.cells (vrow 3 (foAt ax d p)) 33) := ⟨hH.1.alloc hH.1.size _, heap_past _ _ _ _ m0 hH.2.1, heap_past _ _ _ _ m1 hH.2.2⟩
        refine hK.out _ _ hH (fun hH => ?_)
        clear hK K
        (try simp only [Act.put, List.setIfInBounds_toArray, List.set_cons_succ, List.set_cons_zero])
        refine wpAnyH_at 3 #[true, true, true, true, true, true, true, true, true, true, false, false, false] (by kernel_rfl) (by kernel_rfl) ?_
        exact N3_1 (W.alloc (.cells (vrow 266 Sh.zero.at) 34)) W.heap.size hH V m0 m1
    have N2_1 : ∀ (W : World) (b0 : Nat), (Below w.heap.size w W ∧ W.heap[w.heap.size]? = some (.cells (vrow 266 s.at) 31) ∧ W.heap[w.heap.size + 1]? = some (.cells (vrow 3 (foAt ax d p)) 33)) → W.heap[b0]? = some (.cells (vrow 266 Sh.zero.at) 34) → w.heap.size < b0 → w.heap.size + 1 < b0 → wpAnyH Tryd.prog .any O QQ SS 8 #[true, true, true, true, false, false, false, false, false, true, false, false, false] { tmps := #[.agg (vrow 266 s.at), .agg (vrow 3 (foAt ax d p)), .pointer (some ⟨w.heap.size, 0, none⟩), .pointer (some ⟨w.heap.size + 1, 0, none⟩), .bool false, .pointer (some ⟨b0, 0, none⟩), undef, undef, undef, undef, undef, undef, .agg (vrow 266 s.at), .agg (vrow 266 s.at), .agg (vrow 3 (foAt ax d p)), .agg (vrow 3 (foAt ax d p)), undef, undef, undef, undef, undef, undef, undef, undef, undef, undef, undef, undef, undef, undef, undef, undef, undef, undef, undef, undef, undef, undef, undef, undef, undef, undef, undef], defers := [] } W := by
      intro W b0 hH V0 n0_0 n0_1
      subst hO hSS hQQ
      refine wpAnyH_ready (rs := [4]) (by kernel_rfl) (by simp) (AllReadyH.cons rfl (fun K hK => ?_) AllReadyH.nil)
      · rw [if_pos (by rfl)]
        go_simp
        go_at_call 12
        refine (HS.out _).mono ?_
        rintro o X ⟨rfl, hb⟩
        replace hH : Below w.heap.size w X ∧ X.heap[w.heap.size]? = some (.cells (vrow 266 s.at) 31) ∧ X.heap[w.heap.size + 1]? = some (.cells (vrow 3 (foAt ax d p)) 33) := ⟨hH.1.trans (hb.mono hH.1.size), row_next hb hH.2.1, row_next hb hH.2.2⟩
        replace V0 := row_next hb V0
        clear hb
        refine hK.out _ _ hH (fun hH => ?_)
        clear hK K
        (try simp only [Act.put, List.setIfInBounds_toArray, List.set_cons_succ, List.set_cons_zero])
        refine wpAnyH_take (i := 5) (v := (.tuple #[.agg (vrow 266 r.at), .int .i64 m, .int .i64 c])) rfl (by kernel_rfl) (by kernel_rfl) (by kernel_rfl) (fun _ _ _ h => by cases h.1) (.inl ⟨by rfl, fun w _ => by go_simp⟩) hH ?_
        (try simp only [Act.put, List.setIfInBounds_toArray, List.set_cons_succ, List.set_cons_zero])
        refine wpAnyH_take (i := 6) (v := (.agg (vrow 266 r.at))) rfl (by kernel_rfl) (by kernel_rfl) (by kernel_rfl) (fun _ _ _ h => by cases h.1) (.inl ⟨by rfl, fun w _ => by go_simp⟩) hH ?_
        (try simp only [Act.put, List.setIfInBounds_toArray, List.set_cons_succ, List.set_cons_zero])
        refine wpAnyH_take (i := 7) (v := (.int .i64 m)) rfl (by kernel_rfl) (by kernel_rfl) (by kernel_rfl) (fun _ _ _ h => by cases h.1) (.inl ⟨by rfl, fun w _ => by go_simp⟩) hH ?_
        (try simp only [Act.put, List.setIfInBounds_toArray, List.set_cons_succ, List.set_cons_zero])
        refine wpAnyH_take (i := 8) (v := (.int .i64 c)) rfl (by kernel_rfl) (by kernel_rfl) (by kernel_rfl) (fun _ _ _ h => by cases h.1) (.inl ⟨by rfl, fun w _ => by go_simp⟩) hH ?_
        (try simp only [Act.put, List.setIfInBounds_toArray, List.set_cons_succ, List.set_cons_zero])
        refine wpAnyH_at 3 #[true, true, true, true, true, true, true, true, true, true, false, false, false] (by kernel_rfl) (by kernel_rfl) ?_
        exact N3_1 X b0 hH V0 n0_0 n0_1
    have N2_0 : ∀ (W : World), (Below w.heap.size w W ∧ W.heap[w.heap.size]? = some (.cells (vrow 266 s.at) 31) ∧ W.heap[w.heap.size + 1]? = some (.cells (vrow 3 (foAt ax d p)) 33)) → wpAnyH Tryd.prog .any O QQ SS 9 #[true, true, true, true, false, false, false, false, false, false, false, false, false] { tmps := #[.agg (vrow 266 s.at), .agg (vrow 3 (foAt ax d p)), .pointer (some ⟨w.heap.size, 0, none⟩), .pointer (some ⟨w.heap.size + 1, 0, none⟩), .bool false, undef, undef, undef, undef, undef, undef, undef, .agg (vrow 266 s.at), .agg (vrow 266 s.at), .agg (vrow 3 (foAt ax d p)), .agg (vrow 3 (foAt ax d p)), undef, undef, undef, undef, undef, undef, undef, undef, undef, undef, undef, undef, undef, undef, undef, undef, undef, undef, undef, undef, undef, undef, undef, undef, undef, undef, undef], defers := [] } W := by
      intro W hH
      subst hO hSS hQQ
      refine wpAnyH_ready (rs := [4, 9]) (by kernel_rfl) (by simp) (AllReadyH.cons rfl (fun K hK => ?_) (AllReadyH.cons rfl (fun K hK => ?_) AllReadyH.nil))
      · rw [if_pos (by rfl)]
        go_simp
        go_at_call 12
        refine (HS.out _).mono ?_
        rintro o X ⟨rfl, hb⟩
        replace hH : Below w.heap.size w X ∧ X.heap[w.heap.size]? = some (.cells (vrow 266 s.at) 31) ∧ X.heap[w.heap.size + 1]? = some (.cells (vrow 3 (foAt ax d p)) 33) := ⟨hH.1.trans (hb.mono hH.1.size), row_next hb hH.2.1, row_next hb hH.2.2⟩
        clear hb
        refine hK.out _ _ hH (fun hH => ?_)
        clear hK K
        (try simp only [Act.put, List.setIfInBounds_toArray, List.set_cons_succ, List.set_cons_zero])
        refine wpAnyH_take (i := 5) (v := (.tuple #[.agg (vrow 266 r.at), .int .i64 m, .int .i64 c])) rfl (by kernel_rfl) (by kernel_rfl) (by kernel_rfl) (fun _ _ _ h => by cases h.1) (.inl ⟨by rfl, fun w _ => by go_simp⟩) hH ?_
        (try simp only [Act.put, List.setIfInBounds_toArray, List.set_cons_succ, List.set_cons_zero])
        refine wpAnyH_take (i := 6) (v := (.agg (vrow 266 r.at))) rfl (by kernel_rfl) (by kernel_rfl) (by kernel_rfl) (fun _ _ _ h => by cases h.1) (.inl ⟨by rfl, fun w _ => by go_simp⟩) hH ?_
        (try simp only [Act.put, List.setIfInBounds_toArray, List.set_cons_succ, List.set_cons_zero])
        refine wpAnyH_take (i := 7) (v := (.int .i64 m)) rfl (by kernel_rfl) (by kernel_rfl) (by kernel_rfl) (fun _ _ _ h => by cases h.1) (.inl ⟨by rfl, fun w _ => by go_simp⟩) hH ?_
        (try simp only [Act.put, List.setIfInBounds_toArray, List.set_cons_succ, List.set_cons_zero])
        refine wpAnyH_take (i := 8) (v := (.int .i64 c)) rfl (by kernel_rfl) (by kernel_rfl) (by kernel_rfl) (fun _ _ _ h => by cases h.1) (.inl ⟨by rfl, fun w _ => by go_simp⟩) hH ?_
        (try simp only [Act.put, List.setIfInBounds_toArray, List.set_cons_succ, List.set_cons_zero])
        refine wpAnyH_at 4 #[true, true, true, true, true, true, true, true, true, false, false, false, false] (by kernel_rfl) (by kernel_rfl) ?_
        exact N3_0 X  hH
      · rw [if_pos (by rfl)]
        go_simp
        try simp only [sp_vrow]
        have V := heap_at W (.cells (vrow 266 Sh.zero.at) 34) _ rfl
        have m0 := row_lt hH.2.1
        have m1 := row_lt hH.2.2
        replace hH : Below w.heap.size w (W.alloc (.cells (vrow 266 Sh.zero.at) 34)) ∧ (W.alloc (.cells (vrow 266 Sh.zero.at) 34)).heap[w.heap.size]? = some (.cells (vrow 266 s.at) 31) ∧ (W.alloc (.cells (vrow 266 Sh.zero.at) 34)).heap[w.heap.size + 1]? = some (.cells (vrow 3 (foAt ax d p)) 33) := ⟨hH.1.alloc hH.1.size _, heap_past _ _ _ _ m0 hH.2.1, heap_past _ _ _ _ m1 hH.2.2⟩
        refine hK.out _ _ hH (fun hH => ?_)
        clear hK K
        (try simp only [Act.put, List.setIfInBounds_toArray, List.set_cons_succ, List.set_cons_zero])
        refine wpAnyH_at 8 #[true, true, true, true, false, false, false, false, false, true, false, false, false] (by kernel_rfl) (by kernel_rfl) ?_
        exact N2_1 (W.alloc (.cells (vrow 266 Sh.zero.at) 34)) W.heap.size hH V m0 m1
    have N1_1 : ∀ (W : World) (b0 : Nat), (Below w.heap.size w W ∧ W.heap[w.heap.size]? = some (.cells (vrow 266 s.at) 31) ∧ W.heap[w.heap.size + 1]? = some (.cells (vrow 3 (foAt ax d p)) 33)) → W.heap[b0]? = some (.cells (vrow 266 Sh.zero.at) 34) → w.heap.size < b0 → w.heap.size + 1 < b0 → wpAnyH Tryd.prog .any O QQ SS 9 #[true, true, true, false, false, false, false, false, false, true, false, false, false] { tmps := #[.agg (vrow 266 s.at), .agg (vrow 3 (foAt ax d p)), .pointer (some ⟨w.heap.size, 0, none⟩), .pointer (some ⟨w.heap.size + 1, 0, none⟩), .bool false, .pointer (some ⟨b0, 0, none⟩), undef, undef, undef, undef, undef, undef, .agg (vrow 266 s.at), .agg (vrow 266 s.at), .agg (vrow 3 (foAt ax d p)), undef, undef, undef, undef, undef, undef, undef, undef, undef, undef, undef, undef, undef, undef, undef, undef, undef, undef, undef, undef, undef, undef, undef, undef, undef, undef, undef, undef], defers := [] } W := by
      intro W b0 hH V0 n0_0 n0_1
      subst hO hSS hQQ
      refine wpAnyH_ready (rs := [3]) (by kernel_rfl) (by simp) (AllReadyH.cons rfl (fun K hK => ?_) AllReadyH.nil)
      · rw [if_pos (by rfl)]
        go_simp
        go_at_call 14
        refine (HT1.out _).mono ?_
        rintro o X ⟨rfl, hb⟩
        replace hH : Below w.heap.size w X ∧ X.heap[w.heap.size]? = some (.cells (vrow 266 s.at) 31) ∧ X.heap[w.heap.size + 1]? = some (.cells (vrow 3 (foAt ax d p)) 33) := ⟨hH.1.trans (hb.mono hH.1.size), row_next hb hH.2.1, row_next hb hH.2.2⟩
        replace V0 := row_next hb V0
        clear hb
        refine hK.out _ _ hH (fun hH => ?_)
        clear hK K
        (try simp only [Act.put, List.setIfInBounds_toArray, List.set_cons_succ, List.set_cons_zero])
        refine wpAnyH_at 8 #[true, true, true, true, false, false, false, false, false, true, false, false, false] (by kernel_rfl) (by kernel_rfl) ?_
        exact N2_1 X b0 hH V0 n0_0 n0_1
    have N1_0 : ∀ (W : World), (Below w.heap.size w W ∧ W.heap[w.heap.size]? = some (.cells (vrow 266 s.at) 31) ∧ W.heap[w.heap.size + 1]? = some (.cells (vrow 3 (foAt ax d p)) 33)) → wpAnyH Tryd.prog .any O QQ SS 10 #[true, true, true, false, false, false, false, false, false, false, false, false, false] { tmps := #[.agg (vrow 266 s.at), .agg (vrow 3 (foAt ax d p)), .pointer (some ⟨w.heap.size, 0, none⟩), .pointer (some ⟨w.heap.size + 1, 0, none⟩), .bool false, undef, undef, undef, undef, undef, undef, undef, .agg (vrow 266 s.at), .agg (vrow 266 s.at), .agg (vrow 3 (foAt ax d p)), undef, undef, undef, undef, undef, undef, undef, undef, undef, undef, undef, undef, undef, undef, undef, undef, undef, undef, undef, undef, undef, undef, undef, undef, undef, undef, undef, undef], defers := [] } W := by
      intro W hH
      subst hO hSS hQQ
      refine wpAnyH_ready (rs := [3, 9]) (by kernel_rfl) (by simp) (AllReadyH.cons rfl (fun K hK => ?_) (AllReadyH.cons rfl (fun K hK => ?_) AllReadyH.nil))
      · rw [if_pos (by rfl)]
        go_simp
        go_at_call 14
        refine (HT1.out _).mono ?_
        rintro o X ⟨rfl, hb⟩
        replace hH : Below w.heap.size w X ∧ X.heap[w.heap.size]? = some (.cells (vrow 266 s.at) 31) ∧ X.heap[w.heap.size + 1]? = some (.cells (vrow 3 (foAt ax d p)) 33) := ⟨hH.1.trans (hb.mono hH.1.size), row_next hb hH.2.1, row_next hb hH.2.2⟩
        clear hb
        refine hK.out _ _ hH (fun hH => ?_)
        clear hK K
        (try simp only [Act.put, List.setIfInBounds_toArray, List.set_cons_succ, List.set_cons_zero])
        refine wpAnyH_at 9 #[true, true, true, true, false, false, false, false, false, false, false, false, false] (by kernel_rfl) (by kernel_rfl) ?_
        exact N2_0 X  hH
      · rw [if_pos (by rfl)]
        go_simp
        try simp only [sp_vrow]
        have V := heap_at W (.cells (vrow 266 Sh.zero.at) 34) _ rfl
        have m0 := row_lt hH.2.1
        have m1 := row_lt hH.2.2
        replace hH : Below w.heap.size w (W.alloc (.cells (vrow 266 Sh.zero.at) 34)) ∧ (W.alloc (.cells (vrow 266 Sh.zero.at) 34)).heap[w.heap.size]? = some (.cells (vrow 266 s.at) 31) ∧ (W.alloc (.cells (vrow 266 Sh.zero.at) 34)).heap[w.heap.size + 1]? = some (.cells (vrow 3 (foAt ax d p)) 33) := ⟨hH.1.alloc hH.1.size _, heap_past _ _ _ _ m0 hH.2.1, heap_past _ _ _ _ m1 hH.2.2⟩
        refine hK.out _ _ hH (fun hH => ?_)
        clear hK K
        (try simp only [Act.put, List.setIfInBounds_toArray, List.set_cons_succ, List.set_cons_zero])
        refine wpAnyH_at 9 #[true, true, true, false, false, false, false, false, false, true, false, false, false] (by kernel_rfl) (by kernel_rfl) ?_
        exact N1_1 (W.alloc (.cells (vrow 266 Sh.zero.at) 34)) W.heap.size hH V m0 m1
    have N0_1 : ∀ (W : World) (b0 : Nat), (Below w.heap.size w W ∧ W.heap[w.heap.size]? = some (.cells (vrow 266 s.at) 31) ∧ W.heap[w.heap.size + 1]? = some (.cells (vrow 3 (foAt ax d p)) 33)) → W.heap[b0]? = some (.cells (vrow 266 Sh.zero.at) 34) → w.heap.size < b0 → w.heap.size + 1 < b0 → wpAnyH Tryd.prog .any O QQ SS 10 #[true, false, true, false, false, false, false, false, false, true, false, false, false] { tmps := #[.agg (vrow 266 s.at), .agg (vrow 3 (foAt ax d p)), .pointer (some ⟨w.heap.size, 0, none⟩), .pointer (some ⟨w.heap.size + 1, 0, none⟩), .bool false, .pointer (some ⟨b0, 0, none⟩), undef, undef, undef, undef, undef, undef, .agg (vrow 266 s.at), undef, .agg (vrow 3 (foAt ax d p)), undef, undef, undef, undef, undef, undef, undef, undef, undef, undef, undef, undef, undef, undef, undef, undef, undef, undef, undef, undef, undef, undef, undef, undef, undef, undef, undef, undef], defers := [] } W := by
      intro W b0 hH V0 n0_0 n0_1
      subst hO hSS hQQ
      refine wpAnyH_ready (rs := [1]) (by kernel_rfl) (by simp) (AllReadyH.cons rfl (fun K hK => ?_) AllReadyH.nil)
      · rw [if_pos (by rfl)]
        go_simp
        go_at_call 13
        refine (HT0.out _).mono ?_
        rintro o X ⟨rfl, hb⟩
        replace hH : Below w.heap.size w X ∧ X.heap[w.heap.size]? = some (.cells (vrow 266 s.at) 31) ∧ X.heap[w.heap.size + 1]? = some (.cells (vrow 3 (foAt ax d p)) 33) := ⟨hH.1.trans (hb.mono hH.1.size), row_next hb hH.2.1, row_next hb hH.2.2⟩
        replace V0 := row_next hb V0
        clear hb
        refine hK.out _ _ hH (fun hH => ?_)
        clear hK K
        (try simp only [Act.put, List.setIfInBounds_toArray, List.set_cons_succ, List.set_cons_zero])
        refine wpAnyH_at 9 #[true, true, true, false, false, false, false, false, false, true, false, false, false] (by kernel_rfl) (by kernel_rfl) ?_
        exact N1_1 X b0 hH V0 n0_0 n0_1
    have N0_0 : ∀ (W : World), (Below w.heap.size w W ∧ W.heap[w.heap.size]? = some (.cells (vrow 266 s.at) 31) ∧ W.heap[w.heap.size + 1]? = some (.cells (vrow 3 (foAt ax d p)) 33)) → wpAnyH Tryd.prog .any O QQ SS 11 #[true, false, true, false, false, false, false, false, false, false, false, false, false] { tmps := #[.agg (vrow 266 s.at), .agg (vrow 3 (foAt ax d p)), .pointer (some ⟨w.heap.size, 0, none⟩), .pointer (some ⟨w.heap.size + 1, 0, none⟩), .bool false, undef, undef, undef, undef, undef, undef, undef, .agg (vrow 266 s.at), undef, .agg (vrow 3 (foAt ax d p)), undef, undef, undef, undef, undef, undef, undef, undef, undef, undef, undef, undef, undef, undef, undef, undef, undef, undef, undef, undef, undef, undef, undef, undef, undef, undef, undef, undef], defers := [] } W := by
      intro W hH
      subst hO hSS hQQ
      refine wpAnyH_ready (rs := [1, 9]) (by kernel_rfl) (by simp) (AllReadyH.cons rfl (fun K hK => ?_) (AllReadyH.cons rfl (fun K hK => ?_) AllReadyH.nil))
      · rw [if_pos (by rfl)]
        go_simp
        go_at_call 13
        refine (HT0.out _).mono ?_
        rintro o X ⟨rfl, hb⟩
        replace hH : Below w.heap.size w X ∧ X.heap[w.heap.size]? = some (.cells (vrow 266 s.at) 31) ∧ X.heap[w.heap.size + 1]? = some (.cells (vrow 3 (foAt ax d p)) 33) := ⟨hH.1.trans (hb.mono hH.1.size), row_next hb hH.2.1, row_next hb hH.2.2⟩
        clear hb
        refine hK.out _ _ hH (fun hH => ?_)
        clear hK K
        (try simp only [Act.put, List.setIfInBounds_toArray, List.set_cons_succ, List.set_cons_zero])
        refine wpAnyH_at 10 #[true, true, true, false, false, false, false, false, false, false, false, false, false] (by kernel_rfl) (by kernel_rfl) ?_
        exact N1_0 X  hH
      · rw [if_pos (by rfl)]
        go_simp
        try simp only [sp_vrow]
        have V := heap_at W (.cells (vrow 266 Sh.zero.at) 34) _ rfl
        have m0 := row_lt hH.2.1
        have m1 := row_lt hH.2.2
        replace hH : Below w.heap.size w (W.alloc (.cells (vrow 266 Sh.zero.at) 34)) ∧ (W.alloc (.cells (vrow 266 Sh.zero.at) 34)).heap[w.heap.size]? = some (.cells (vrow 266 s.at) 31) ∧ (W.alloc (.cells (vrow 266 Sh.zero.at) 34)).heap[w.heap.size + 1]? = some (.cells (vrow 3 (foAt ax d p)) 33) := ⟨hH.1.alloc hH.1.size _, heap_past _ _ _ _ m0 hH.2.1, heap_past _ _ _ _ m1 hH.2.2⟩
        refine hK.out _ _ hH (fun hH => ?_)
        clear hK K
        (try simp only [Act.put, List.setIfInBounds_toArray, List.set_cons_succ, List.set_cons_zero])
        refine wpAnyH_at 10 #[true, false, true, false, false, false, false, false, false, true, false, false, false] (by kernel_rfl) (by kernel_rfl) ?_
        exact N0_1 (W.alloc (.cells (vrow 266 Sh.zero.at) 34)) W.heap.size hH V m0 m1
    subst hO hSS hQQ
    refine wp_region_held_drew (S := fun W' => Below w.heap.size w W' ∧ W'.heap[w.heap.size]? = some (.cells (vrow 266 s.at) 31) ∧ W'.heap[w.heap.size + 1]? = some (.cells (vrow 3 (foAt ax d p)) 33)) (by kernel_rfl) ⟨hB.out.drew, P0.out, P1.out⟩ (fun hH => ?_)
    generalize World.drew _ = W at hH ⊢
    refine wpAnyH_take (i := 0) (v := (.agg (vrow 266 s.at))) rfl (by kernel_rfl) (by kernel_rfl) (by kernel_rfl) (fun _ _ _ h => by cases h.1) (yields_row (by rfl) 31 _ rfl (w.heap.size) rfl 266 s.at 31 _ Tryd.underlying31 rfl size_lsheet (fun _ h => h.2.1)) hH ?_
    (try simp only [Act.put, List.setIfInBounds_toArray, List.set_cons_succ, List.set_cons_zero])
    refine wpAnyH_take (i := 2) (v := (.agg (vrow 3 (foAt ax d p)))) rfl (by kernel_rfl) (by kernel_rfl) (by kernel_rfl) (fun _ _ _ h => by cases h.1) (yields_row (by rfl) 33 _ rfl (w.heap.size + 1) rfl 3 (foAt ax d p) 33 _ Tryd.underlying33 rfl size_lfold (fun _ h => h.2.2)) hH ?_
    (try simp only [Act.put, List.setIfInBounds_toArray, List.set_cons_succ, List.set_cons_zero])
    refine wpAnyH_at 11 #[true, false, true, false, false, false, false, false, false, false, false, false, false] (by kernel_rfl) (by kernel_rfl) ?_
    exact N0_0 W hH
  rintro e1 a1 W1 ⟨rfl, b0, rfl, ⟨hB, P0, P1⟩, U0⟩
  replace hB := Go.Lib.hid hB; replace P0 := Go.Lib.hid P0; replace P1 := Go.Lib.hid P1; replace U0 := Go.Lib.hid U0
  go_wp2
  refine Code.wp_mono (Q := fun e a' W' => e = .normal ∧ ∃ c0, a' = { tmps := #[.agg (vrow 266 s.at), .agg (vrow 3 (foAt ax d p)), .pointer (some ⟨w.heap.size, 0, none⟩), .pointer (some ⟨w.heap.size + 1, 0, none⟩), .bool false, .pointer (some ⟨b0, 0, none⟩), .int .i64 m, .int .i64 c, .pointer (some ⟨c0, 0, none⟩), .int .i64 m, .int .i64 c, .tuple #[.agg (vrow 266 r.at), .int .i64 m, .int .i64 c], .agg (vrow 266 s.at), .agg (vrow 266 s.at), .agg (vrow 3 (foAt ax d p)), .agg (vrow 3 (foAt ax d p)), .tuple #[.agg (vrow 266 r.at), .int .i64 m, .int .i64 c], .agg (vrow 266 r.at), .int .i64 m, .int .i64 c, .tuple #[.agg (vrow 266 r.at), .int .i64 m, .int .i64 c], .agg (vrow 266 s.at), .agg (vrow 266 s.at), .agg (vrow 3 (foAt ax d p)), .agg (vrow 3 (foAt ax d p)), .tuple #[.agg (vrow 266 r.at), .int .i64 m, .int .i64 c], .agg (vrow 266 r.at), .int .i64 m, .int .i64 c, undef, undef, undef, undef, undef, undef, undef, undef, undef, undef, undef, undef, undef, undef], defers := [] } ∧ (Below w.heap.size w W' ∧ W'.heap[w.heap.size]? = some (.cells (vrow 266 s.at) 31) ∧ W'.heap[w.heap.size + 1]? = some (.cells (vrow 3 (foAt ax d p)) 33) ∧ W'.heap[b0]? = some (.cells (vrow 266 r.at) 34)) ∧ W'.heap[c0]? = some (.cells (vrow 266 r.at) 34)) ?_ ?_
  rotate_left
  · refine region_gen (fun O hO => ?_)
    obtain ⟨SS, hSS⟩ : ∃ zS : World → Prop, zS = (fun W' => Below w.heap.size w W' ∧ W'.heap[w.heap.size]? = some (.cells (vrow 266 s.at) 31) ∧ W'.heap[w.heap.size + 1]? = some (.cells (vrow 3 (foAt ax d p)) 33) ∧ W'.heap[b0]? = some (.cells (vrow 266 r.at) 34)) := ⟨_, rfl⟩
    obtain ⟨QQ, hQQ⟩ : ∃ zQ : Exit → Act → World → Prop, zQ = (fun e a' W' => e = .normal ∧ ∃ c0, a' = { tmps := #[.agg (vrow 266 s.at), .agg (vrow 3 (foAt ax d p)), .pointer (some ⟨w.heap.size, 0, none⟩), .pointer (some ⟨w.heap.size + 1, 0, none⟩), .bool false, .pointer (some ⟨b0, 0, none⟩), .int .i64 m, .int .i64 c, .pointer (some ⟨c0, 0, none⟩), .int .i64 m, .int .i64 c, .tuple #[.agg (vrow 266 r.at), .int .i64 m, .int .i64 c], .agg (vrow 266 s.at), .agg (vrow 266 s.at), .agg (vrow 3 (foAt ax d p)), .agg (vrow 3 (foAt ax d p)), .tuple #[.agg (vrow 266 r.at), .int .i64 m, .int .i64 c], .agg (vrow 266 r.at), .int .i64 m, .int .i64 c, .tuple #[.agg (vrow 266 r.at), .int .i64 m, .int .i64 c], .agg (vrow 266 s.at), .agg (vrow 266 s.at), .agg (vrow 3 (foAt ax d p)), .agg (vrow 3 (foAt ax d p)), .tuple #[.agg (vrow 266 r.at), .int .i64 m, .int .i64 c], .agg (vrow 266 r.at), .int .i64 m, .int .i64 c, undef, undef, undef, undef, undef, undef, undef, undef, undef, undef, undef, undef, undef, undef], defers := [] } ∧ (Below w.heap.size w W' ∧ W'.heap[w.heap.size]? = some (.cells (vrow 266 s.at) 31) ∧ W'.heap[w.heap.size + 1]? = some (.cells (vrow 3 (foAt ax d p)) 33) ∧ W'.heap[b0]? = some (.cells (vrow 266 r.at) 34)) ∧ W'.heap[c0]? = some (.cells (vrow 266 r.at) 34)) := ⟨_, rfl⟩
    rw [← hQQ]
    have M3_1 : ∀ (W : World) (c0 : Nat), (Below w.heap.size w W ∧ W.heap[w.heap.size]? = some (.cells (vrow 266 s.at) 31) ∧ W.heap[w.heap.size + 1]? = some (.cells (vrow 3 (foAt ax d p)) 33) ∧ W.heap[b0]? = some (.cells (vrow 266 r.at) 34)) → W.heap[c0]? = some (.cells (vrow 266 Sh.zero.at) 34) → w.heap.size < c0 → w.heap.size + 1 < c0 → b0 < c0 → wpAnyH Tryd.prog .any O QQ SS 3 #[true, true, true, true, true, true, true, true, true, true, false, false, false] { tmps := #[.agg (vrow 266 s.at), .agg (vrow 3 (foAt ax d p)), .pointer (some ⟨w.heap.size, 0, none⟩), .pointer (some ⟨w.heap.size + 1, 0, none⟩), .bool false, .pointer (some ⟨b0, 0, none⟩), .int .i64 m, .int .i64 c, .pointer (some ⟨c0, 0, none⟩), undef, undef, .tuple #[.agg (vrow 266 r.at), .int .i64 m, .int .i64 c], .agg (vrow 266 s.at), .agg (vrow 266 s.at), .agg (vrow 3 (foAt ax d p)), .agg (vrow 3 (foAt ax d p)), .tuple #[.agg (vrow 266 r.at), .int .i64 m, .int .i64 c], .agg (vrow 266 r.at), .int .i64 m, .int .i64 c, .tuple #[.agg (vrow 266 r.at), .int .i64 m, .int .i64 c], .agg (vrow 266 s.at), .agg (vrow 266 s.at), .agg (vrow 3 (foAt ax d p)), .agg (vrow 3 (foAt ax d p)), .tuple #[.agg (vrow 266 r.at), .int .i64 m, .int .i64 c], .agg (vrow 266 r.at), .int .i64 m, .int .i64 c, undef, undef, undef, undef, undef, undef, undef, undef, undef, undef, undef, undef, undef, undef], defers := [] } W := by
      intro W c0 hH V0 n0_0 n0_1 n0_2
      subst hO hSS hQQ
      refine wpAnyH_ready (rs := [10]) (by kernel_rfl) (by simp) (AllReadyH.cons rfl (fun K hK => ?_) AllReadyH.nil)
      rw [if_pos (by rfl)]
      unfold Oper.wp
      rw [run_storemid 34 (.tmp 8) (.tmp 26) rfl c0 0 rfl 266 266 Sh.zero.at r.at rfl 34 size_sheet V0 (by omega) (fun i _ => Sh.one _ i), vrow_over_all, Oper.upon_skip]
      replace V0 := row_set V0 (vrow 266 r.at)
      have hH2 : Below w.heap.size w (W.setRow c0 (vrow 266 r.at)) ∧ (W.setRow c0 (vrow 266 r.at)).heap[w.heap.size]? = some (.cells (vrow 266 s.at) 31) ∧ (W.setRow c0 (vrow 266 r.at)).heap[w.heap.size + 1]? = some (.cells (vrow 3 (foAt ax d p)) 33) ∧ (W.setRow c0 (vrow 266 r.at)).heap[b0]? = some (.cells (vrow 266 r.at) 34) := ⟨Below_setRow hH.1 (by omega) _, row_set' (by omega) hH.2.1 _, row_set' (by omega) hH.2.2.1 _, row_set' (by omega) hH.2.2.2 _⟩
      refine hK.out _ _ hH2 (fun hH => ?_)
      clear hK K hH2
      (try simp only [Act.put, List.setIfInBounds_toArray, List.set_cons_succ, List.set_cons_zero])
      generalize (W.setRow c0 (vrow 266 r.at)) = Y0 at hH V0 ⊢
      refine wpAnyH_take (i := 11) (v := (.int .i64 m)) rfl (by kernel_rfl) (by kernel_rfl) (by kernel_rfl) (fun _ _ _ h => by cases h.1) (.inl ⟨by rfl, fun w _ => by go_simp⟩) hH ?_
      (try simp only [Act.put, List.setIfInBounds_toArray, List.set_cons_succ, List.set_cons_zero])
      refine wpAnyH_take (i := 12) (v := (.int .i64 c)) rfl (by kernel_rfl) (by kernel_rfl) (by kernel_rfl) (fun _ _ _ h => by cases h.1) (.inl ⟨by rfl, fun w _ => by go_simp⟩) hH ?_
      (try simp only [Act.put, List.setIfInBounds_toArray, List.set_cons_succ, List.set_cons_zero])
      refine wpAnyH_done (by kernel_rfl) ?_ _
      exact ⟨rfl, c0, rfl, hH, V0⟩
    have M3_0 : ∀ (W : World), (Below w.heap.size w W ∧ W.heap[w.heap.size]? = some (.cells (vrow 266 s.at) 31) ∧ W.heap[w.heap.size + 1]? = some (.cells (vrow 3 (foAt ax d p)) 33) ∧ W.heap[b0]? = some (.cells (vrow 266 r.at) 34)) → wpAnyH Tryd.prog .any O QQ SS 4 #[true, true, true, true, true, true, true, true, true, false, false, false, false] { tmps := #[.agg (vrow 266 s.at), .agg (vrow 3 (foAt ax d p)), .pointer (some ⟨w.heap.size, 0, none⟩), .pointer (some ⟨w.heap.size + 1, 0, none⟩), .bool false, .pointer (some ⟨b0, 0, none⟩), .int .i64 m, .int .i64 c, undef, undef, undef, .tuple #[.agg (vrow 266 r.at), .int .i64 m, .int .i64 c], .agg (vrow 266 s.at), .agg (vrow 266 s.at), .agg (vrow 3 (foAt ax d p)), .agg (vrow 3 (foAt ax d p)), .tuple #[.agg (vrow 266 r.at), .int .i64 m, .int .i64 c], .agg (vrow 266 r.at), .int .i64 m, .int .i64 c, .tuple #[.agg (vrow 266 r.at), .int .i64 m, .int .i64 c], .agg (vrow 266 s.at), .agg (vrow 266 s.at), .agg (vrow 3 (foAt ax d p)), .agg (vrow 3 (foAt ax d p)), .tuple #[.agg (vrow 266 r.at), .int .i64 m, .int .i64 c], .agg (vrow 266 r.at), .int .i64 m, .int .i64 c, undef, undef, undef, undef, undef, undef, undef, undef, undef, undef, undef, undef, undef, undef], defers := [] } W := by
      intro W hH
      subst hO hSS hQQ
      refine wpAnyH_ready (rs := [9]) (by kernel_rfl) (by simp) (AllReadyH.cons rfl (fun K hK => ?_) AllReadyH.nil)
      · rw [if_pos (by rfl)]
        go_simp
        try simp only [sp_vrow]
        have V := heap_at W (.cells (vrow 266 Sh.zero.at) 34) _ rfl
        have m0 := row_lt hH.2.1
        have m1 := row_lt hH.2.2.1
        have m2 := row_lt hH.2.2.2
        replace hH : Below w.heap.size w (W.alloc (.cells (vrow 266 Sh.zero.at) 34)) ∧ (W.alloc (.cells (vrow 266 Sh.zero.at) 34)).heap[w.heap.size]? = some (.cells (vrow 266 s.at) 31) ∧ (W.alloc (.cells (vrow 266 Sh.zero.at) 34)).heap[w.heap.size + 1]? = some (.cells (vrow 3 (foAt ax d p)) 33) ∧ (W.alloc (.cells (vrow 266 Sh.zero.at) 34)).heap[b0]? = some (.cells (vrow 266 r.at) 34) := ⟨hH.1.alloc hH.1.size _, heap_past _ _ _ _ m0 hH.2.1, heap_past _ _ _ _ m1 hH.2.2.1, heap_past _ _ _ _ m2 hH.2.2.2⟩
        refine hK.out _ _ hH (fun hH => ?_)
        clear hK K
        (try simp only [Act.put, List.setIfInBounds_toArray, List.set_cons_succ, List.set_cons_zero])
        refine wpAnyH_at 3 #[true, true, true, true, true, true, true, true, true, true, false, false, false] (by kernel_rfl) (by kernel_rfl) ?_
        exact M3_1 (W.alloc (.cells (vrow 266 Sh.zero.at) 34)) W.heap.size hH V m0 m1 m2
    have M2_1 : ∀ (W : World) (c0 : Nat), (Below w.heap.size w W ∧ W.heap[w.heap.size]? = some (.cells (vrow 266 s.at) 31) ∧ W.heap[w.heap.size + 1]? = some (.cells (vrow 3 (foAt ax d p)) 33) ∧ W.heap[b0]? = some (.cells (vrow 266 r.at) 34)) → W.heap[c0]? = some (.cells (vrow 266 Sh.zero.at) 34) → w.heap.size < c0 → w.heap.size + 1 < c0 → b0 < c0 → wpAnyH Tryd.prog .any O QQ SS 8 #[true, true, true, true, false, false, false, false, false, true, false, false, false] { tmps := #[.agg (vrow 266 s.at), .agg (vrow 3 (foAt ax d p)), .pointer (some ⟨w.heap.size, 0, none⟩), .pointer (some ⟨w.heap.size + 1, 0, none⟩), .bool false, .pointer (some ⟨b0, 0, none⟩), .int .i64 m, .int .i64 c, .pointer (some ⟨c0, 0, none⟩), undef, undef, .tuple #[.agg (vrow 266 r.at), .int .i64 m, .int .i64 c], .agg (vrow 266 s.at), .agg (vrow 266 s.at), .agg (vrow 3 (foAt ax d p)), .agg (vrow 3 (foAt ax d p)), .tuple #[.agg (vrow 266 r.at), .int .i64 m, .int .i64 c], .agg (vrow 266 r.at), .int .i64 m, .int .i64 c, undef, .agg (vrow 266 s.at), .agg (vrow 266 s.at), .agg (vrow 3 (foAt ax d p)), .agg (vrow 3 (foAt ax d p)), undef, undef, undef, undef, undef, undef, undef, undef, undef, undef, undef, undef, undef, undef, undef, undef, undef, undef], defers := [] } W := by
      intro W c0 hH V0 n0_0 n0_1 n0_2
      subst hO hSS hQQ
      refine wpAnyH_ready (rs := [4]) (by kernel_rfl) (by simp) (AllReadyH.cons rfl (fun K hK => ?_) AllReadyH.nil)
      · rw [if_pos (by rfl)]
        go_simp
        go_at_call 15
        refine (HI.out _ (hE.next hH.1)).mono ?_
        rintro o X ⟨rfl, hb⟩
        replace hH : Below w.heap.size w X ∧ X.heap[w.heap.size]? = some (.cells (vrow 266 s.at) 31) ∧ X.heap[w.heap.size + 1]? = some (.cells (vrow 3 (foAt ax d p)) 33) ∧ X.heap[b0]? = some (.cells (vrow 266 r.at) 34) := ⟨hH.1.trans (hb.mono hH.1.size), row_next hb hH.2.1, row_next hb hH.2.2.1, row_next hb hH.2.2.2⟩
        replace V0 := row_next hb V0
        clear hb
        refine hK.out _ _ hH (fun hH => ?_)
        clear hK K
        (try simp only [Act.put, List.setIfInBounds_toArray, List.set_cons_succ, List.set_cons_zero])
        refine wpAnyH_take (i := 5) (v := (.tuple #[.agg (vrow 266 r.at), .int .i64 m, .int .i64 c])) rfl (by kernel_rfl) (by kernel_rfl) (by kernel_rfl) (fun _ _ _ h => by cases h.1) (.inl ⟨by rfl, fun w _ => by go_simp⟩) hH ?_
        (try simp only [Act.put, List.setIfInBounds_toArray, List.set_cons_succ, List.set_cons_zero])
        refine wpAnyH_take (i := 6) (v := (.agg (vrow 266 r.at))) rfl (by kernel_rfl) (by kernel_rfl) (by kernel_rfl) (fun _ _ _ h => by cases h.1) (.inl ⟨by rfl, fun w _ => by go_simp⟩) hH ?_
        (try simp only [Act.put, List.setIfInBounds_toArray, List.set_cons_succ, List.set_cons_zero])
        refine wpAnyH_take (i := 7) (v := (.int .i64 m)) rfl (by kernel_rfl) (by kernel_rfl) (by kernel_rfl) (fun _ _ _ h => by cases h.1) (.inl ⟨by rfl, fun w _ => by go_simp⟩) hH ?_
        (try simp only [Act.put, List.setIfInBounds_toArray, List.set_cons_succ, List.set_cons_zero])
        refine wpAnyH_take (i := 8) (v := (.int .i64 c)) rfl (by kernel_rfl) (by kernel_rfl) (by kernel_rfl) (fun _ _ _ h => by cases h.1) (.inl ⟨by rfl, fun w _ => by go_simp⟩) hH ?_
        (try simp only [Act.put, List.setIfInBounds_toArray, List.set_cons_succ, List.set_cons_zero])
        refine wpAnyH_at 3 #[true, true, true, true, true, true, true, true, true, true, false, false, false] (by kernel_rfl) (by kernel_rfl) ?_
        exact M3_1 X c0 hH V0 n0_0 n0_1 n0_2
    have M2_0 : ∀ (W : World), (Below w.heap.size w W ∧ W.heap[w.heap.size]? = some (.cells (vrow 266 s.at) 31) ∧ W.heap[w.heap.size + 1]? = some (.cells (vrow 3 (foAt ax d p)) 33) ∧ W.heap[b0]? = some (.cells (vrow 266 r.at) 34)) → wpAnyH Tryd.prog .any O QQ SS 9 #[true, true, true, true, false, false, false, false, false, false, false, false, false] { tmps := #[.agg (vrow 266 s.at), .agg (vrow 3 (foAt ax d p)), .pointer (some ⟨w.heap.size, 0, none⟩), .pointer (some ⟨w.heap.size + 1, 0, none⟩), .bool false, .pointer (some ⟨b0, 0, none⟩), .int .i64 m, .int .i64 c, undef, undef, undef, .tuple #[.agg (vrow 266 r.at), .int .i64 m, .int .i64 c], .agg (vrow 266 s.at), .agg (vrow 266 s.at), .agg (vrow 3 (foAt ax d p)), .agg (vrow 3 (foAt ax d p)), .tuple #[.agg (vrow 266 r.at), .int .i64 m, .int .i64 c], .agg (vrow 266 r.at), .int .i64 m, .int .i64 c, undef, .agg (vrow 266 s.at), .agg (vrow 266 s.at), .agg (vrow 3 (foAt ax d p)), .agg (vrow 3 (foAt ax d p)), undef, undef, undef, undef, undef, undef, undef, undef, undef, undef, undef, undef, undef, undef, undef, undef, undef, undef], defers := [] } W := by
      intro W hH
      subst hO hSS hQQ
      refine wpAnyH_ready (rs := [4, 9]) (by kernel_rfl) (by simp) (AllReadyH.cons rfl (fun K hK => ?_) (AllReadyH.cons rfl (fun K hK => ?_) AllReadyH.nil))
      · rw [if_pos (by rfl)]
        go_simp
        go_at_call 15
        refine (HI.out _ (hE.next hH.1)).mono ?_
        rintro o X ⟨rfl, hb⟩
        replace hH : Below w.heap.size w X ∧ X.heap[w.heap.size]? = some (.cells (vrow 266 s.at) 31) ∧ X.heap[w.heap.size + 1]? = some (.cells (vrow 3 (foAt ax d p)) 33) ∧ X.heap[b0]? = some (.cells (vrow 266 r.at) 34) := ⟨hH.1.trans (hb.mono hH.1.size), row_next hb hH.2.1, row_next hb hH.2.2.1, row_next hb hH.2.2.2⟩
        clear hb
        refine hK.out _ _ hH (fun hH => ?_)
        clear hK K
        (try simp only [Act.put, List.setIfInBounds_toArray, List.set_cons_succ, List.set_cons_zero])
        refine wpAnyH_take (i := 5) (v := (.tuple #[.agg (vrow 266 r.at), .int .i64 m, .int .i64 c])) rfl (by kernel_rfl) (by kernel_rfl) (by kernel_rfl) (fun _ _ _ h => by cases h.1) (.inl ⟨by rfl, fun w _ => by go_simp⟩) hH ?_
        (try simp only [Act.put, List.setIfInBounds_toArray, List.set_cons_succ, List.set_cons_zero])
        refine wpAnyH_take (i := 6) (v := (.agg (vrow 266 r.at))) rfl (by kernel_rfl) (by kernel_rfl) (by kernel_rfl) (fun _ _ _ h => by cases h.1) (.inl ⟨by rfl, fun w _ => by go_simp⟩) hH ?_
        (try simp only [Act.put, List.setIfInBounds_toArray, List.set_cons_succ, List.set_cons_zero])
        refine wpAnyH_take (i := 7) (v := (.int .i64 m)) rfl (by kernel_rfl) (by kernel_rfl) (by kernel_rfl) (fun _ _ _ h => by cases h.1) (.inl ⟨by rfl, fun w _ => by go_simp⟩) hH ?_
        (try simp only [Act.put, List.setIfInBounds_toArray, List.set_cons_succ, List.set_cons_zero])
        refine wpAnyH_take (i := 8) (v := (.int .i64 c)) rfl (by kernel_rfl) (by kernel_rfl) (by kernel_rfl) (fun _ _ _ h => by cases h.1) (.inl ⟨by rfl, fun w _ => by go_simp⟩) hH ?_
        (try simp only [Act.put, List.setIfInBounds_toArray, List.set_cons_succ, List.set_cons_zero])
        refine wpAnyH_at 4 #[true, true, true, true, true, true, true, true, true, false, false, false, false] (by kernel_rfl) (by kernel_rfl) ?_
        exact M3_0 X  hH
      · rw [if_pos (by rfl)]
        go_simp
        try simp only [sp_vrow]
        have V := heap_at W (.cells (vrow 266 Sh.zero.at) 34) _ rfl
        have m0 := row_lt hH.2.1
        have m1 := row_lt hH.2.2.1
        have m2 := row_lt hH.2.2.2
        replace hH : Below w.heap.size w (W.alloc (.cells (vrow 266 Sh.zero.at) 34)) ∧ (W.alloc (.cells (vrow 266 Sh.zero.at) 34)).heap[w.heap.size]? = some (.cells (vrow 266 s.at) 31) ∧ (W.alloc (.cells (vrow 266 Sh.zero.at) 34)).heap[w.heap.size + 1]? = some (.cells (vrow 3 (foAt ax d p)) 33) ∧ (W.alloc (.cells (vrow 266 Sh.zero.at) 34)).heap[b0]? = some (.cells (vrow 266 r.at) 34) := ⟨hH.1.alloc hH.1.size _, heap_past _ _ _ _ m0 hH.2.1, heap_past _ _ _ _ m1 hH.2.2.1, heap_past _ _ _ _ m2 hH.2.2.2⟩
        refine hK.out _ _ hH (fun hH => ?_)
        clear hK K
        (try simp only [Act.put, List.setIfInBounds_toArray, List.set_cons_succ, List.set_cons_zero])
        refine wpAnyH_at 8 #[true, true, true, true, false, false, false, false, false, true, false, false, false] (by kernel_rfl) (by kernel_rfl) ?_
        exact M2_1 (W.alloc (.cells (vrow 266 Sh.zero.at) 34)) W.heap.size hH V m0 m1 m2
    have M1_1 : ∀ (W : World) (c0 : Nat), (Below w.heap.size w W ∧ W.heap[w.heap.size]? = some (.cells (vrow 266 s.at) 31) ∧ W.heap[w.heap.size + 1]? = some (.cells (vrow 3 (foAt ax d p)) 33) ∧ W.heap[b0]? = some (.cells (vrow 266 r.at) 34)) → W.heap[c0]? = some (.cells (vrow 266 Sh.zero.at) 34) → w.heap.size < c0 → w.heap.size + 1 < c0 → b0 < c0 → wpAnyH Tryd.prog .any O QQ SS 9 #[true, true, true, false, false, false, false, false, false, true, false, false, false] { tmps := #[.agg (vrow 266 s.at), .agg (vrow 3 (foAt ax d p)), .pointer (some ⟨w.heap.size, 0, none⟩), .pointer (some ⟨w.heap.size + 1, 0, none⟩), .bool false, .pointer (some ⟨b0, 0, none⟩), .int .i64 m, .int .i64 c, .pointer (some ⟨c0, 0, none⟩), undef, undef, .tuple #[.agg (vrow 266 r.at), .int .i64 m, .int .i64 c], .agg (vrow 266 s.at), .agg (vrow 266 s.at), .agg (vrow 3 (foAt ax d p)), .agg (vrow 3 (foAt ax d p)), .tuple #[.agg (vrow 266 r.at), .int .i64 m, .int .i64 c], .agg (vrow 266 r.at), .int .i64 m, .int .i64 c, undef, .agg (vrow 266 s.at), .agg (vrow 266 s.at), .agg (vrow 3 (foAt ax d p)), undef, undef, undef, undef, undef, undef, undef, undef, undef, undef, undef, undef, undef, undef, undef, undef, undef, undef, undef], defers := [] } W := by
      intro W c0 hH V0 n0_0 n0_1 n0_2
      subst hO hSS hQQ
      refine wpAnyH_ready (rs := [3]) (by kernel_rfl) (by simp) (AllReadyH.cons rfl (fun K hK => ?_) AllReadyH.nil)
      · rw [if_pos (by rfl)]
        go_simp
        go_at_call 14
        refine (HT1.out _).mono ?_
        rintro o X ⟨rfl, hb⟩
        replace hH : Below w.heap.size w X ∧ X.heap[w.heap.size]? = some (.cells (vrow 266 s.at) 31) ∧ X.heap[w.heap.size + 1]? = some (.cells (vrow 3 (foAt ax d p)) 33) ∧ X.heap[b0]? = some (.cells (vrow 266 r.at) 34) := ⟨hH.1.trans (hb.mono hH.1.size), row_next hb hH.2.1, row_next hb hH.2.2.1, row_next hb hH.2.2.2⟩
        replace V0 := row_next hb V0
        clear hb
        refine hK.out _ _ hH (fun hH => ?_)
        clear hK K
        (try simp only [Act.put, List.setIfInBounds_toArray, List.set_cons_succ, List.set_cons_zero])
        refine wpAnyH_at 8 #[true, true, true, true, false, false, false, false, false, true, false, false, false] (by kernel_rfl) (by kernel_rfl) ?_
        exact M2_1 X c0 hH V0 n0_0 n0_1 n0_2
    have M1_0 : ∀ (W : World), (Below w.heap.size w W ∧ W.heap[w.heap.size]? = some (.cells (vrow 266 s.at) 31) ∧ W.heap[w.heap.size + 1]? = some (.cells (vrow 3 (foAt ax d p)) 33) ∧ W.heap[b0]? = some (.cells (vrow 266 r.at) 34)) → wpAnyH Tryd.prog .any O QQ SS 10 #[true, true, true, false, false, false, false, false, false, false, false, false, false] { tmps := #[.agg (vrow 266 s.at), .agg (vrow 3 (foAt ax d p)), .pointer (some ⟨w.heap.size, 0, none⟩), .pointer (some ⟨w.heap.size + 1, 0, none⟩), .bool false, .pointer (some ⟨b0, 0, none⟩), .int .i64 m, .int .i64 c, undef, undef, undef, .tuple #[.agg (vrow 266 r.at), .int .i64 m, .int .i64 c], .agg (vrow 266 s.at), .agg (vrow 266 s.at), .agg (vrow 3 (foAt ax d p)), .agg (vrow 3 (foAt ax d p)), .tuple #[.agg (vrow 266 r.at), .int .i64 m, .int .i64 c], .agg (vrow 266 r.at), .int .i64 m, .int .i64 c, undef, .agg (vrow 266 s.at), .agg (vrow 266 s.at), .agg (vrow 3 (foAt ax d p)), undef, undef, undef, undef, undef, undef, undef, undef, undef, undef, undef, undef, undef, undef, undef, undef, undef, undef, undef], defers := [] } W := by
      intro W hH
      subst hO hSS hQQ
      refine wpAnyH_ready (rs := [3, 9]) (by kernel_rfl) (by simp) (AllReadyH.cons rfl (fun K hK => ?_) (AllReadyH.cons rfl (fun K hK => ?_) AllReadyH.nil))
      · rw [if_pos (by rfl)]
        go_simp
        go_at_call 14
        refine (HT1.out _).mono ?_
        rintro o X ⟨rfl, hb⟩
        replace hH : Below w.heap.size w X ∧ X.heap[w.heap.size]? = some (.cells (vrow 266 s.at) 31) ∧ X.heap[w.heap.size + 1]? = some (.cells (vrow 3 (foAt ax d p)) 33) ∧ X.heap[b0]? = some (.cells (vrow 266 r.at) 34) := ⟨hH.1.trans (hb.mono hH.1.size), row_next hb hH.2.1, row_next hb hH.2.2.1, row_next hb hH.2.2.2⟩
        clear hb
        refine hK.out _ _ hH (fun hH => ?_)
        clear hK K
        (try simp only [Act.put, List.setIfInBounds_toArray, List.set_cons_succ, List.set_cons_zero])
        refine wpAnyH_at 9 #[true, true, true, true, false, false, false, false, false, false, false, false, false] (by kernel_rfl) (by kernel_rfl) ?_
        exact M2_0 X  hH
      · rw [if_pos (by rfl)]
        go_simp
        try simp only [sp_vrow]
        have V := heap_at W (.cells (vrow 266 Sh.zero.at) 34) _ rfl
        have m0 := row_lt hH.2.1
        have m1 := row_lt hH.2.2.1
        have m2 := row_lt hH.2.2.2
        replace hH : Below w.heap.size w (W.alloc (.cells (vrow 266 Sh.zero.at) 34)) ∧ (W.alloc (.cells (vrow 266 Sh.zero.at) 34)).heap[w.heap.size]? = some (.cells (vrow 266 s.at) 31) ∧ (W.alloc (.cells (vrow 266 Sh.zero.at) 34)).heap[w.heap.size + 1]? = some (.cells (vrow 3 (foAt ax d p)) 33) ∧ (W.alloc (.cells (vrow 266 Sh.zero.at) 34)).heap[b0]? = some (.cells (vrow 266 r.at) 34) := ⟨hH.1.alloc hH.1.size _, heap_past _ _ _ _ m0 hH.2.1, heap_past _ _ _ _ m1 hH.2.2.1, heap_past _ _ _ _ m2 hH.2.2.2⟩
        refine hK.out _ _ hH (fun hH => ?_)
        clear hK K
        (try simp only [Act.put, List.setIfInBounds_toArray, List.set_cons_succ, List.set_cons_zero])
        refine wpAnyH_at 9 #[true, true, true, false, false, false, false, false, false, true, false, false, false] (by kernel_rfl) (by kernel_rfl) ?_
        exact M1_1 (W.alloc (.cells (vrow 266 Sh.zero.at) 34)) W.heap.size hH V m0 m1 m2
    have M0_1 : ∀ (W : World) (c0 : Nat), (Below w.heap.size w W ∧ W.heap[w.heap.size]? = some (.cells (vrow 266 s.at) 31) ∧ W.heap[w.heap.size + 1]? = some (.cells (vrow 3 (foAt ax d p)) 33) ∧ W.heap[b0]? = some (.cells (vrow 266 r.at) 34)) → W.heap[c0]? = some (.cells (vrow 266 Sh.zero.at) 34) → w.heap.size < c0 → w.heap.size + 1 < c0 → b0 < c0 → wpAnyH Tryd.prog .any O QQ SS 10 #[true, false, true, false, false, false, false, false, false, true, false, false, false] { tmps := #[.agg (vrow 266 s.at), .agg (vrow 3 (foAt ax d p)), .pointer (some ⟨w.heap.size, 0, none⟩), .pointer (some ⟨w.heap.size + 1, 0, none⟩), .bool false, .pointer (some ⟨b0, 0, none⟩), .int .i64 m, .int .i64 c, .pointer (some ⟨c0, 0, none⟩), undef, undef, .tuple #[.agg (vrow 266 r.at), .int .i64 m, .int .i64 c], .agg (vrow 266 s.at), .agg (vrow 266 s.at), .agg (vrow 3 (foAt ax d p)), .agg (vrow 3 (foAt ax d p)), .tuple #[.agg (vrow 266 r.at), .int .i64 m, .int .i64 c], .agg (vrow 266 r.at), .int .i64 m, .int .i64 c, undef, .agg (vrow 266 s.at), undef, .agg (vrow 3 (foAt ax d p)), undef, undef, undef, undef, undef, undef, undef, undef, undef, undef, undef, undef, undef, undef, undef, undef, undef, undef, undef], defers := [] } W := by
      intro W c0 hH V0 n0_0 n0_1 n0_2
      subst hO hSS hQQ
      refine wpAnyH_ready (rs := [1]) (by kernel_rfl) (by simp) (AllReadyH.cons rfl (fun K hK => ?_) AllReadyH.nil)
      · rw [if_pos (by rfl)]
        go_simp
        go_at_call 13
        refine (HT0.out _).mono ?_
        rintro o X ⟨rfl, hb⟩
        replace hH : Below w.heap.size w X ∧ X.heap[w.heap.size]? = some (.cells (vrow 266 s.at) 31) ∧ X.heap[w.heap.size + 1]? = some (.cells (vrow 3 (foAt ax d p)) 33) ∧ X.heap[b0]? = some (.cells (vrow 266 r.at) 34) := ⟨hH.1.trans (hb.mono hH.1.size), row_next hb hH.2.1, row_next hb hH.2.2.1, row_next hb hH.2.2.2⟩
        replace V0 := row_next hb V0
        clear hb
        refine hK.out _ _ hH (fun hH => ?_)
        clear hK K
        (try simp only [Act.put, List.setIfInBounds_toArray, List.set_cons_succ, List.set_cons_zero])
        refine wpAnyH_at 9 #[true, true, true, false, false, false, false, false, false, true, false, false, false] (by kernel_rfl) (by kernel_rfl) ?_
        exact M1_1 X c0 hH V0 n0_0 n0_1 n0_2
    have M0_0 : ∀ (W : World), (Below w.heap.size w W ∧ W.heap[w.heap.size]? = some (.cells (vrow 266 s.at) 31) ∧ W.heap[w.heap.size + 1]? = some (.cells (vrow 3 (foAt ax d p)) 33) ∧ W.heap[b0]? = some (.cells (vrow 266 r.at) 34)) → wpAnyH Tryd.prog .any O QQ SS 11 #[true, false, true, false, false, false, false, false, false, false, false, false, false] { tmps := #[.agg (vrow 266 s.at), .agg (vrow 3 (foAt ax d p)), .pointer (some ⟨w.heap.size, 0, none⟩), .pointer (some ⟨w.heap.size + 1, 0, none⟩), .bool false, .pointer (some ⟨b0, 0, none⟩), .int .i64 m, .int .i64 c, undef, undef, undef, .tuple #[.agg (vrow 266 r.at), .int .i64 m, .int .i64 c], .agg (vrow 266 s.at), .agg (vrow 266 s.at), .agg (vrow 3 (foAt ax d p)), .agg (vrow 3 (foAt ax d p)), .tuple #[.agg (vrow 266 r.at), .int .i64 m, .int .i64 c], .agg (vrow 266 r.at), .int .i64 m, .int .i64 c, undef, .agg (vrow 266 s.at), undef, .agg (vrow 3 (foAt ax d p)), undef, undef, undef, undef, undef, undef, undef, undef, undef, undef, undef, undef, undef, undef, undef, undef, undef, undef, undef], defers := [] } W := by
      intro W hH
      subst hO hSS hQQ
      refine wpAnyH_ready (rs := [1, 9]) (by kernel_rfl) (by simp) (AllReadyH.cons rfl (fun K hK => ?_) (AllReadyH.cons rfl (fun K hK => ?_) AllReadyH.nil))
      · rw [if_pos (by rfl)]
        go_simp
        go_at_call 13
        refine (HT0.out _).mono ?_
        rintro o X ⟨rfl, hb⟩
        replace hH : Below w.heap.size w X ∧ X.heap[w.heap.size]? = some (.cells (vrow 266 s.at) 31) ∧ X.heap[w.heap.size + 1]? = some (.cells (vrow 3 (foAt ax d p)) 33) ∧ X.heap[b0]? = some (.cells (vrow 266 r.at) 34) := ⟨hH.1.trans (hb.mono hH.1.size), row_next hb hH.2.1, row_next hb hH.2.2.1, row_next hb hH.2.2.2⟩
        clear hb
        refine hK.out _ _ hH (fun hH => ?_)
        clear hK K
        (try simp only [Act.put, List.setIfInBounds_toArray, List.set_cons_succ, List.set_cons_zero])
        refine wpAnyH_at 10 #[true, true, true, false, false, false, false, false, false, false, false, false, false] (by kernel_rfl) (by kernel_rfl) ?_
        exact M1_0 X  hH
      · rw [if_pos (by rfl)]
        go_simp
        try simp only [sp_vrow]
        have V := heap_at W (.cells (vrow 266 Sh.zero.at) 34) _ rfl
        have m0 := row_lt hH.2.1
        have m1 := row_lt hH.2.2.1
        have m2 := row_lt hH.2.2.2
        replace hH : Below w.heap.size w (W.alloc (.cells (vrow 266 Sh.zero.at) 34)) ∧ (W.alloc (.cells (vrow 266 Sh.zero.at) 34)).heap[w.heap.size]? = some (.cells (vrow 266 s.at) 31) ∧ (W.alloc (.cells (vrow 266 Sh.zero.at) 34)).heap[w.heap.size + 1]? = some (.cells (vrow 3 (foAt ax d p)) 33) ∧ (W.alloc (.cells (vrow 266 Sh.zero.at) 34)).heap[b0]? = some (.cells (vrow 266 r.at) 34) := ⟨hH.1.alloc hH.1.size _, heap_past _ _ _ _ m0 hH.2.1, heap_past _ _ _ _ m1 hH.2.2.1, heap_past _ _ _ _ m2 hH.2.2.2⟩
        refine hK.out _ _ hH (fun hH => ?_)
        clear hK K
        (try simp only [Act.put, List.setIfInBounds_toArray, List.set_cons_succ, List.set_cons_zero])
        refine wpAnyH_at 10 #[true, false, true, false, false, false, false, false, false, true, false, false, false] (by kernel_rfl) (by kernel_rfl) ?_
        exact M0_1 (W.alloc (.cells (vrow 266 Sh.zero.at) 34)) W.heap.size hH V m0 m1 m2
    subst hO hSS hQQ
    refine wp_region_held_drew (S := fun W' => Below w.heap.size w W' ∧ W'.heap[w.heap.size]? = some (.cells (vrow 266 s.at) 31) ∧ W'.heap[w.heap.size + 1]? = some (.cells (vrow 3 (foAt ax d p)) 33) ∧ W'.heap[b0]? = some (.cells (vrow 266 r.at) 34)) (by kernel_rfl) ⟨hB.out.drew, P0.out, P1.out, U0.out⟩ (fun hH => ?_)
    generalize World.drew _ = W at hH ⊢
    refine wpAnyH_take (i := 0) (v := (.agg (vrow 266 s.at))) rfl (by kernel_rfl) (by kernel_rfl) (by kernel_rfl) (fun _ _ _ h => by cases h.1) (yields_row (by rfl) 31 _ rfl (w.heap.size) rfl 266 s.at 31 _ Tryd.underlying31 rfl size_lsheet (fun _ h => h.2.1)) hH ?_
    (try simp only [Act.put, List.setIfInBounds_toArray, List.set_cons_succ, List.set_cons_zero])
    refine wpAnyH_take (i := 2) (v := (.agg (vrow 3 (foAt ax d p)))) rfl (by kernel_rfl) (by kernel_rfl) (by kernel_rfl) (fun _ _ _ h => by cases h.1) (yields_row (by rfl) 33 _ rfl (w.heap.size + 1) rfl 3 (foAt ax d p) 33 _ Tryd.underlying33 rfl size_lfold (fun _ h => h.2.2.1)) hH ?_
    (try simp only [Act.put, List.setIfInBounds_toArray, List.set_cons_succ, List.set_cons_zero])
    refine wpAnyH_at 11 #[true, false, true, false, false, false, false, false, false, false, false, false, false] (by kernel_rfl) (by kernel_rfl) ?_
    exact M0_0 W hH
  rintro e2 a2 W2 ⟨rfl, c0, rfl, ⟨hB, P0, P1, U0⟩, V0⟩
  replace hB := Go.Lib.hid hB; replace P0 := Go.Lib.hid P0; replace P1 := Go.Lib.hid P1; replace U0 := Go.Lib.hid U0; replace V0 := Go.Lib.hid V0
  go_wp2_with (first
    | go_skip
    | ((with_reducible refine wlAt 29 rfl ?_); refine wpList_loadall rfl 34 (.tmp 8) rfl _ rfl 266 r.at 34 _ Tryd.underlying34 rfl size_sheet V0.out ?_)
    | ((with_reducible refine wlAt 30 rfl ?_); refine wpList_loadall rfl 34 (.tmp 5) rfl _ rfl 266 r.at 34 _ Tryd.underlying34 rfl size_sheet U0.out ?_)
    | (go_at_call 16; (first | (with_reducible refine (eqSheet_any r _).mono ?_)); rintro o w3 ⟨rfl, hb⟩; (try (replace U0 := Go.Lib.hid (row_next hb U0.out))); (try (replace V0 := Go.Lib.hid (row_next hb V0.out))); replace hB := Go.Lib.hid (below_next hB.out hb); clear hb))
  go_ret
  exact ⟨rfl, hB.out⟩
end Go.Proofs.YtmcpaangofdmpaaDoor
