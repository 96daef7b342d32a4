import Derived.Deep.RegionHeld3
import Derived.Test.YtgbhchmpeioaiaaDoorEqSheet
import Derived.Test.YtgbhchmpeioaiaaDoorGu3
import Derived.Test.YtgbhchmpeioaiaaDoorG1
namespace Go.Proofs.YtgbhchmpeioaiaaDoor
open Go.RowKit
set_option maxRecDepth 100000
set_option linter.unusedVariables false
set_option linter.unusedSimpArgs false
set_option linter.unusedSimpArgs false
set_option maxHeartbeats 4000000 in
theorem Gu_walk (s : Sh) (x y : Int) (u v : Int) (r : Sh) (c : Int) (e : ErrE) (w : World) (hE : Errs e w)
    (hS : ∀ w, Calls Tryd.prog 44 #[.agg s.row, .agg #[.int .i8 x, .int .i8 y], .agg #[.int .i8 u, .int .i8 v]] w fun e w' => e = .returned (.tuple #[.agg r.row, .int .i64 c]) ∧ Below w.heap.size w w')
    (hI : ∀ w, Errs e w → Calls Tryd.prog 46 #[.agg s.row, .agg #[.int .i8 x, .int .i8 y], .agg #[.int .i8 u, .int .i8 v]] w fun e w' => e = .returned (.tuple #[.agg r.row, .int .i64 c]) ∧ Below w.heap.size w w') : Calls Tryd.prog 14 #[.agg s.row, .agg #[.int .i8 x, .int .i8 y], .agg #[.int .i8 u, .int .i8 v]] w fun o w' => o = .returned (.bool true) ∧ Below w.heap.size w w' := by
  have zz := zero_sheet
  have zs := zero_spot
  have HT0 := Go.Lib.hid (fun w => toSheet_any s w)
  have HT1 := Go.Lib.hid (fun w => toSpot_any x y w)
  have HT2 := Go.Lib.hid (fun w => toSpot_any u v w)
  simp only [sp_vrow] at hS hI
  have HS := Go.Lib.hid hS; have HI := Go.Lib.hid hI
  clear hS hI
  simp only [sp_vrow]
  have hB : Hid (Below w.heap.size w (((w.alloc (.cells (vrow 266 s.at) 31)).alloc (.cells (vrow 2 (spAt x y)) 64)).alloc (.cells (vrow 2 (spAt u v)) 64))) := ((((Below.refl w.heap.size w).alloc (by simp <;> omega) _).alloc (by simp <;> omega) _).alloc (by simp <;> omega) _)
  have P0 : Hid ((((w.alloc (.cells (vrow 266 s.at) 31)).alloc (.cells (vrow 2 (spAt x y)) 64)).alloc (.cells (vrow 2 (spAt u v)) 64)).heap[(w.heap.size)]? = some (.cells (vrow 266 s.at) 31)) := heap_past _ _ _ _ (by first | omega | (simp <;> omega)) (heap_past _ _ _ _ (by first | omega | (simp <;> omega)) (heap_at _ _ _ (by simp)))
  have P1 : Hid ((((w.alloc (.cells (vrow 266 s.at) 31)).alloc (.cells (vrow 2 (spAt x y)) 64)).alloc (.cells (vrow 2 (spAt u v)) 64)).heap[(w.heap.size + 1)]? = some (.cells (vrow 2 (spAt x y)) 64)) := heap_past _ _ _ _ (by first | omega | (simp <;> omega)) (heap_at _ _ _ (by simp))
  have P2 : Hid ((((w.alloc (.cells (vrow 266 s.at) 31)).alloc (.cells (vrow 2 (spAt x y)) 64)).alloc (.cells (vrow 2 (spAt u v)) 64)).heap[(w.heap.size + 1 + 1)]? = some (.cells (vrow 2 (spAt u v)) 64)) := heap_at _ _ _ (by simp)
  go_enter Tryd.func14, Tryd.ntmps14
  go_wp2
  refine Code.wp_mono (Q := fun e a' W' => e = .normal ∧ ∃ b5, a' = { tmps := #[.agg s.row, .agg (vrow 2 (spAt x y)), .agg (vrow 2 (spAt u v)), .pointer (some ⟨w.heap.size, 0, none⟩), .pointer (some ⟨w.heap.size + 1, 0, none⟩), .pointer (some ⟨w.heap.size + 2, 0, none⟩), .bool false, .pointer (some ⟨b5, 0, none⟩), .int .i64 c, undef, undef, .tuple #[.agg r.row, .int .i64 c], .agg s.row, .agg s.row, .agg (vrow 2 (spAt x y)), .agg (vrow 2 (spAt x y)), .agg (vrow 2 (spAt u v)), .agg (vrow 2 (spAt u v)), .tuple #[.agg r.row, .int .i64 c], .agg r.row, .int .i64 c, undef, undef, undef, undef, undef, undef, undef, undef, undef, undef, undef, undef, undef, undef, undef, undef, undef, undef, undef], defers := [] } ∧ (Below w.heap.size w W' ∧ W'.heap[w.heap.size]? = some (.cells (vrow 266 s.at) 31) ∧ W'.heap[w.heap.size + 1]? = some (.cells (vrow 2 (spAt x y)) 64) ∧ W'.heap[w.heap.size + 2]? = some (.cells (vrow 2 (spAt u v)) 64)) ∧ W'.heap[b5]? = some (.cells (vrow 266 r.at) 35)) ?_ ?_
  rotate_left
  · refine wp_region_held_drew (S := fun W' => Below w.heap.size w W' ∧ W'.heap[w.heap.size]? = some (.cells (vrow 266 s.at) 31) ∧ W'.heap[w.heap.size + 1]? = some (.cells (vrow 2 (spAt x y)) 64) ∧ W'.heap[w.heap.size + 2]? = some (.cells (vrow 2 (spAt u v)) 64)) (by kernel_rfl) ⟨hB.out.drew, P0.out, P1.out, P2.out⟩ (fun hH => ?_)
    clear hB P0 P1 P2
    generalize World.drew _ = W at hH ⊢
    refine wpAnyH_take (i := 0) (v := (.agg (vrow 266 s.at))) rfl (by kernel_rfl) (by kernel_rfl) (by kernel_rfl) (fun _ _ _ h => by cases h.1) (yields_row (by rfl) 31 _ rfl (w.heap.size) rfl 266 s.at 31 _ Tryd.underlying31 rfl size_lsheet (fun _ h => h.2.1)) hH ?_
    (try simp only [Act.put, List.setIfInBounds_toArray, List.set_cons_succ, List.set_cons_zero])
    refine wpAnyH_take (i := 2) (v := (.agg (vrow 2 (spAt x y)))) rfl (by kernel_rfl) (by kernel_rfl) (by kernel_rfl) (fun _ _ _ h => by cases h.1) (yields_row (by rfl) 64 _ rfl (w.heap.size + 1) rfl 2 (spAt x y) 64 _ Tryd.underlying64 rfl size_lspot (fun _ h => h.2.2.1)) hH ?_
    (try simp only [Act.put, List.setIfInBounds_toArray, List.set_cons_succ, List.set_cons_zero])
    refine wpAnyH_take (i := 4) (v := (.agg (vrow 2 (spAt u v)))) rfl (by kernel_rfl) (by kernel_rfl) (by kernel_rfl) (fun _ _ _ h => by cases h.1) (yields_row (by rfl) 64 _ rfl (w.heap.size + 2) rfl 2 (spAt u v) 64 _ Tryd.underlying64 rfl size_lspot (fun _ h => h.2.2.2)) hH ?_
    (try simp only [Act.put, List.setIfInBounds_toArray, List.set_cons_succ, List.set_cons_zero])
    refine wpAnyH_ready (rs := [1, 10]) (by kernel_rfl) (by simp) (AllReadyH.cons rfl (fun K hK => ?_) (AllReadyH.cons rfl (fun K hK => ?_) AllReadyH.nil))
    · rw [if_pos (by rfl)]
      go_simp
      go_at_call 16
      refine (HT0.out _).mono ?_
      rintro o X1 ⟨rfl, hb⟩
      replace hH : Below w.heap.size w X1 ∧ X1.heap[w.heap.size]? = some (.cells (vrow 266 s.at) 31) ∧ X1.heap[w.heap.size + 1]? = some (.cells (vrow 2 (spAt x y)) 64) ∧ X1.heap[w.heap.size + 2]? = some (.cells (vrow 2 (spAt u v)) 64) := ⟨hH.1.trans (hb.mono hH.1.size), row_next hb hH.2.1, row_next hb hH.2.2.1, row_next hb hH.2.2.2⟩
      clear hb
      refine hK.out _ _ hH (fun hH => ?_)
      clear hK K
      (try simp only [Act.put, List.setIfInBounds_toArray, List.set_cons_succ, List.set_cons_zero])
      refine wpAnyH_ready (rs := [3, 10]) (by kernel_rfl) (by simp) (AllReadyH.cons rfl (fun K hK => ?_) (AllReadyH.cons rfl (fun K hK => ?_) AllReadyH.nil))
      · rw [if_pos (by rfl)]
        go_simp
        go_at_call 45
        refine (HT1.out _).mono ?_
        rintro o X3 ⟨rfl, hb⟩
        replace hH : Below w.heap.size w X3 ∧ X3.heap[w.heap.size]? = some (.cells (vrow 266 s.at) 31) ∧ X3.heap[w.heap.size + 1]? = some (.cells (vrow 2 (spAt x y)) 64) ∧ X3.heap[w.heap.size + 2]? = some (.cells (vrow 2 (spAt u v)) 64) := ⟨hH.1.trans (hb.mono hH.1.size), row_next hb hH.2.1, row_next hb hH.2.2.1, row_next hb hH.2.2.2⟩
        clear hb
        refine hK.out _ _ hH (fun hH => ?_)
        clear hK K
        (try simp only [Act.put, List.setIfInBounds_toArray, List.set_cons_succ, List.set_cons_zero])
        refine wpAnyH_ready (rs := [5, 10]) (by kernel_rfl) (by simp) (AllReadyH.cons rfl (fun K hK => ?_) (AllReadyH.cons rfl (fun K hK => ?_) AllReadyH.nil))
        · rw [if_pos (by rfl)]
          go_simp
          go_at_call 45
          refine (HT2.out _).mono ?_
          rintro o X5 ⟨rfl, hb⟩
          replace hH : Below w.heap.size w X5 ∧ X5.heap[w.heap.size]? = some (.cells (vrow 266 s.at) 31) ∧ X5.heap[w.heap.size + 1]? = some (.cells (vrow 2 (spAt x y)) 64) ∧ X5.heap[w.heap.size + 2]? = some (.cells (vrow 2 (spAt u v)) 64) := ⟨hH.1.trans (hb.mono hH.1.size), row_next hb hH.2.1, row_next hb hH.2.2.1, row_next hb hH.2.2.2⟩
          clear hb
          refine hK.out _ _ hH (fun hH => ?_)
          clear hK K
          (try simp only [Act.put, List.setIfInBounds_toArray, List.set_cons_succ, List.set_cons_zero])
          refine wpAnyH_ready (rs := [6, 10]) (by kernel_rfl) (by simp) (AllReadyH.cons rfl (fun K hK => ?_) (AllReadyH.cons rfl (fun K hK => ?_) AllReadyH.nil))
          · rw [if_pos (by rfl)]
            go_simp
            go_at_call 44
            refine (HS.out _).mono ?_
            rintro o X7 ⟨rfl, hb⟩
            replace hH : Below w.heap.size w X7 ∧ X7.heap[w.heap.size]? = some (.cells (vrow 266 s.at) 31) ∧ X7.heap[w.heap.size + 1]? = some (.cells (vrow 2 (spAt x y)) 64) ∧ X7.heap[w.heap.size + 2]? = some (.cells (vrow 2 (spAt u v)) 64) := ⟨hH.1.trans (hb.mono hH.1.size), row_next hb hH.2.1, row_next hb hH.2.2.1, row_next hb hH.2.2.2⟩
            clear hb
            refine hK.out _ _ hH (fun hH => ?_)
            clear hK K
            (try simp only [Act.put, List.setIfInBounds_toArray, List.set_cons_succ, List.set_cons_zero])
            refine wpAnyH_take (i := 7) (v := (.tuple #[.agg r.row, .int .i64 c])) rfl (by kernel_rfl) (by kernel_rfl) (by kernel_rfl) (fun _ _ _ h => by cases h.1) (.inl ⟨by rfl, fun w _ => by go_simp⟩) hH ?_
            (try simp only [Act.put, List.setIfInBounds_toArray, List.set_cons_succ, List.set_cons_zero])
            refine wpAnyH_take (i := 8) (v := (.agg r.row)) rfl (by kernel_rfl) (by kernel_rfl) (by kernel_rfl) (fun _ _ _ h => by cases h.1) (.inl ⟨by rfl, fun w _ => by go_simp⟩) hH ?_
            (try simp only [Act.put, List.setIfInBounds_toArray, List.set_cons_succ, List.set_cons_zero])
            refine wpAnyH_take (i := 9) (v := (.int .i64 c)) rfl (by kernel_rfl) (by kernel_rfl) (by kernel_rfl) (fun _ _ _ h => by cases h.1) (.inl ⟨by rfl, fun w _ => by go_simp⟩) hH ?_
            (try simp only [Act.put, List.setIfInBounds_toArray, List.set_cons_succ, List.set_cons_zero])
            refine wpAnyH_ready (rs := [10]) (by kernel_rfl) (by simp) (AllReadyH.cons rfl (fun K hK => ?_) AllReadyH.nil)
            rw [if_pos (by rfl)]
            go_simp
            have V := heap_at X7 (.cells Sh.zero.row 35) _ rfl
            have n0 := row_lt hH.2.1
            have n1 := row_lt hH.2.2.1
            have n2 := row_lt hH.2.2.2
            replace hH : Below w.heap.size w (X7.alloc (.cells Sh.zero.row 35)) ∧ (X7.alloc (.cells Sh.zero.row 35)).heap[w.heap.size]? = some (.cells (vrow 266 s.at) 31) ∧ (X7.alloc (.cells Sh.zero.row 35)).heap[w.heap.size + 1]? = some (.cells (vrow 2 (spAt x y)) 64) ∧ (X7.alloc (.cells Sh.zero.row 35)).heap[w.heap.size + 2]? = some (.cells (vrow 2 (spAt u v)) 64) := ⟨hH.1.alloc hH.1.size _, heap_past _ _ _ _ (row_lt hH.2.1) hH.2.1, heap_past _ _ _ _ (row_lt hH.2.2.1) hH.2.2.1, heap_past _ _ _ _ (row_lt hH.2.2.2) hH.2.2.2⟩
            refine hK.out _ _ hH (fun hH => ?_)
            clear hK K
            (try simp only [Act.put, List.setIfInBounds_toArray, List.set_cons_succ, List.set_cons_zero])
            generalize hb7 : X7.heap.size = b5 at V n0 n1 n2 ⊢
            generalize X7.alloc _ = Y9 at hH V ⊢
            clear hb7
            refine wpAnyH_ready (rs := [11]) (by kernel_rfl) (by simp) (AllReadyH.cons rfl (fun K hK => ?_) AllReadyH.nil)
            rw [if_pos (by rfl)]
            unfold Oper.wp
            rw [run_storemid 35 (.tmp 7) (.tmp 19) rfl b5 0 rfl 266 266 Sh.zero.at r.at rfl 35 size_sheet V (by omega) (fun i _ => r.one i), vrow_over_all, Oper.upon_skip]
            have V2 := row_set V (vrow 266 r.at)
            have hH2 : Below w.heap.size w (Y9.setRow b5 (vrow 266 r.at)) ∧ (Y9.setRow b5 (vrow 266 r.at)).heap[w.heap.size]? = some (.cells (vrow 266 s.at) 31) ∧ (Y9.setRow b5 (vrow 266 r.at)).heap[w.heap.size + 1]? = some (.cells (vrow 2 (spAt x y)) 64) ∧ (Y9.setRow b5 (vrow 266 r.at)).heap[w.heap.size + 2]? = some (.cells (vrow 2 (spAt u v)) 64) := ⟨Below_setRow hH.1 (by omega) _, row_set' (by omega) hH.2.1 _, row_set' (by omega) hH.2.2.1 _, row_set' (by omega) hH.2.2.2 _⟩
            refine hK.out _ _ hH2 (fun hH => ?_)
            clear hK K hH2
            (try simp only [Act.put, List.setIfInBounds_toArray, List.set_cons_succ, List.set_cons_zero])
            refine wpAnyH_take (i := 12) (v := (.int .i64 c)) rfl (by kernel_rfl) (by kernel_rfl) (by kernel_rfl) (fun _ _ _ h => by cases h.1) (.inl ⟨by rfl, fun w _ => by go_simp⟩) hH ?_
            (try simp only [Act.put, List.setIfInBounds_toArray, List.set_cons_succ, List.set_cons_zero])
            refine wpAnyH_done (by kernel_rfl) ?_ _
            exact ⟨rfl, b5, rfl, hH, V2⟩
          · rw [if_pos (by rfl)]
            go_simp
            have V := heap_at X5 (.cells Sh.zero.row 35) _ rfl
            have n0 := row_lt hH.2.1
            have n1 := row_lt hH.2.2.1
            have n2 := row_lt hH.2.2.2
            replace hH : Below w.heap.size w (X5.alloc (.cells Sh.zero.row 35)) ∧ (X5.alloc (.cells Sh.zero.row 35)).heap[w.heap.size]? = some (.cells (vrow 266 s.at) 31) ∧ (X5.alloc (.cells Sh.zero.row 35)).heap[w.heap.size + 1]? = some (.cells (vrow 2 (spAt x y)) 64) ∧ (X5.alloc (.cells Sh.zero.row 35)).heap[w.heap.size + 2]? = some (.cells (vrow 2 (spAt u v)) 64) := ⟨hH.1.alloc hH.1.size _, heap_past _ _ _ _ (row_lt hH.2.1) hH.2.1, heap_past _ _ _ _ (row_lt hH.2.2.1) hH.2.2.1, heap_past _ _ _ _ (row_lt hH.2.2.2) hH.2.2.2⟩
            refine hK.out _ _ hH (fun hH => ?_)
            clear hK K
            (try simp only [Act.put, List.setIfInBounds_toArray, List.set_cons_succ, List.set_cons_zero])
            generalize hb7 : X5.heap.size = b5 at V n0 n1 n2 ⊢
            generalize X5.alloc _ = Y8 at hH V ⊢
            clear hb7
            refine wpAnyH_ready (rs := [6]) (by kernel_rfl) (by simp) (AllReadyH.cons rfl (fun K hK => ?_) AllReadyH.nil)
            rw [if_pos (by rfl)]
            go_simp
            go_at_call 44
            refine (HS.out _).mono ?_
            rintro o X10 ⟨rfl, hb⟩
            replace hH : Below w.heap.size w X10 ∧ X10.heap[w.heap.size]? = some (.cells (vrow 266 s.at) 31) ∧ X10.heap[w.heap.size + 1]? = some (.cells (vrow 2 (spAt x y)) 64) ∧ X10.heap[w.heap.size + 2]? = some (.cells (vrow 2 (spAt u v)) 64) := ⟨hH.1.trans (hb.mono hH.1.size), row_next hb hH.2.1, row_next hb hH.2.2.1, row_next hb hH.2.2.2⟩
            replace V := row_next hb V
            clear hb
            refine hK.out _ _ hH (fun hH => ?_)
            clear hK K
            (try simp only [Act.put, List.setIfInBounds_toArray, List.set_cons_succ, List.set_cons_zero])
            refine wpAnyH_take (i := 7) (v := (.tuple #[.agg r.row, .int .i64 c])) rfl (by kernel_rfl) (by kernel_rfl) (by kernel_rfl) (fun _ _ _ h => by cases h.1) (.inl ⟨by rfl, fun w _ => by go_simp⟩) hH ?_
            (try simp only [Act.put, List.setIfInBounds_toArray, List.set_cons_succ, List.set_cons_zero])
            refine wpAnyH_take (i := 8) (v := (.agg r.row)) rfl (by kernel_rfl) (by kernel_rfl) (by kernel_rfl) (fun _ _ _ h => by cases h.1) (.inl ⟨by rfl, fun w _ => by go_simp⟩) hH ?_
            (try simp only [Act.put, List.setIfInBounds_toArray, List.set_cons_succ, List.set_cons_zero])
            refine wpAnyH_take (i := 9) (v := (.int .i64 c)) rfl (by kernel_rfl) (by kernel_rfl) (by kernel_rfl) (fun _ _ _ h => by cases h.1) (.inl ⟨by rfl, fun w _ => by go_simp⟩) hH ?_
            (try simp only [Act.put, List.setIfInBounds_toArray, List.set_cons_succ, List.set_cons_zero])
            refine wpAnyH_ready (rs := [11]) (by kernel_rfl) (by simp) (AllReadyH.cons rfl (fun K hK => ?_) AllReadyH.nil)
            rw [if_pos (by rfl)]
            unfold Oper.wp
            rw [run_storemid 35 (.tmp 7) (.tmp 19) rfl b5 0 rfl 266 266 Sh.zero.at r.at rfl 35 size_sheet V (by omega) (fun i _ => r.one i), vrow_over_all, Oper.upon_skip]
            have V2 := row_set V (vrow 266 r.at)
            have hH2 : Below w.heap.size w (X10.setRow b5 (vrow 266 r.at)) ∧ (X10.setRow b5 (vrow 266 r.at)).heap[w.heap.size]? = some (.cells (vrow 266 s.at) 31) ∧ (X10.setRow b5 (vrow 266 r.at)).heap[w.heap.size + 1]? = some (.cells (vrow 2 (spAt x y)) 64) ∧ (X10.setRow b5 (vrow 266 r.at)).heap[w.heap.size + 2]? = some (.cells (vrow 2 (spAt u v)) 64) := ⟨Below_setRow hH.1 (by omega) _, row_set' (by omega) hH.2.1 _, row_set' (by omega) hH.2.2.1 _, row_set' (by omega) hH.2.2.2 _⟩
            refine hK.out _ _ hH2 (fun hH => ?_)
            clear hK K hH2
            (try simp only [Act.put, List.setIfInBounds_toArray, List.set_cons_succ, List.set_cons_zero])
            refine wpAnyH_take (i := 12) (v := (.int .i64 c)) rfl (by kernel_rfl) (by kernel_rfl) (by kernel_rfl) (fun _ _ _ h => by cases h.1) (.inl ⟨by rfl, fun w _ => by go_simp⟩) hH ?_
            (try simp only [Act.put, List.setIfInBounds_toArray, List.set_cons_succ, List.set_cons_zero])
            refine wpAnyH_done (by kernel_rfl) ?_ _
            exact ⟨rfl, b5, rfl, hH, V2⟩
        · rw [if_pos (by rfl)]
          go_simp
          have V := heap_at X3 (.cells Sh.zero.row 35) _ rfl
          have n0 := row_lt hH.2.1
          have n1 := row_lt hH.2.2.1
          have n2 := row_lt hH.2.2.2
          replace hH : Below w.heap.size w (X3.alloc (.cells Sh.zero.row 35)) ∧ (X3.alloc (.cells Sh.zero.row 35)).heap[w.heap.size]? = some (.cells (vrow 266 s.at) 31) ∧ (X3.alloc (.cells Sh.zero.row 35)).heap[w.heap.size + 1]? = some (.cells (vrow 2 (spAt x y)) 64) ∧ (X3.alloc (.cells Sh.zero.row 35)).heap[w.heap.size + 2]? = some (.cells (vrow 2 (spAt u v)) 64) := ⟨hH.1.alloc hH.1.size _, heap_past _ _ _ _ (row_lt hH.2.1) hH.2.1, heap_past _ _ _ _ (row_lt hH.2.2.1) hH.2.2.1, heap_past _ _ _ _ (row_lt hH.2.2.2) hH.2.2.2⟩
          refine hK.out _ _ hH (fun hH => ?_)
          clear hK K
          (try simp only [Act.put, List.setIfInBounds_toArray, List.set_cons_succ, List.set_cons_zero])
          generalize hb7 : X3.heap.size = b5 at V n0 n1 n2 ⊢
          generalize X3.alloc _ = Y6 at hH V ⊢
          clear hb7
          refine wpAnyH_ready (rs := [5]) (by kernel_rfl) (by simp) (AllReadyH.cons rfl (fun K hK => ?_) AllReadyH.nil)
          rw [if_pos (by rfl)]
          go_simp
          go_at_call 45
          refine (HT2.out _).mono ?_
          rintro o X11 ⟨rfl, hb⟩
          replace hH : Below w.heap.size w X11 ∧ X11.heap[w.heap.size]? = some (.cells (vrow 266 s.at) 31) ∧ X11.heap[w.heap.size + 1]? = some (.cells (vrow 2 (spAt x y)) 64) ∧ X11.heap[w.heap.size + 2]? = some (.cells (vrow 2 (spAt u v)) 64) := ⟨hH.1.trans (hb.mono hH.1.size), row_next hb hH.2.1, row_next hb hH.2.2.1, row_next hb hH.2.2.2⟩
          replace V := row_next hb V
          clear hb
          refine hK.out _ _ hH (fun hH => ?_)
          clear hK K
          (try simp only [Act.put, List.setIfInBounds_toArray, List.set_cons_succ, List.set_cons_zero])
          refine wpAnyH_ready (rs := [6]) (by kernel_rfl) (by simp) (AllReadyH.cons rfl (fun K hK => ?_) AllReadyH.nil)
          rw [if_pos (by rfl)]
          go_simp
          go_at_call 44
          refine (HS.out _).mono ?_
          rintro o X12 ⟨rfl, hb⟩
          replace hH : Below w.heap.size w X12 ∧ X12.heap[w.heap.size]? = some (.cells (vrow 266 s.at) 31) ∧ X12.heap[w.heap.size + 1]? = some (.cells (vrow 2 (spAt x y)) 64) ∧ X12.heap[w.heap.size + 2]? = some (.cells (vrow 2 (spAt u v)) 64) := ⟨hH.1.trans (hb.mono hH.1.size), row_next hb hH.2.1, row_next hb hH.2.2.1, row_next hb hH.2.2.2⟩
          replace V := row_next hb V
          clear hb
          refine hK.out _ _ hH (fun hH => ?_)
          clear hK K
          (try simp only [Act.put, List.setIfInBounds_toArray, List.set_cons_succ, List.set_cons_zero])
          refine wpAnyH_take (i := 7) (v := (.tuple #[.agg r.row, .int .i64 c])) rfl (by kernel_rfl) (by kernel_rfl) (by kernel_rfl) (fun _ _ _ h => by cases h.1) (.inl ⟨by rfl, fun w _ => by go_simp⟩) hH ?_
          (try simp only [Act.put, List.setIfInBounds_toArray, List.set_cons_succ, List.set_cons_zero])
          refine wpAnyH_take (i := 8) (v := (.agg r.row)) rfl (by kernel_rfl) (by kernel_rfl) (by kernel_rfl) (fun _ _ _ h => by cases h.1) (.inl ⟨by rfl, fun w _ => by go_simp⟩) hH ?_
          (try simp only [Act.put, List.setIfInBounds_toArray, List.set_cons_succ, List.set_cons_zero])
          refine wpAnyH_take (i := 9) (v := (.int .i64 c)) rfl (by kernel_rfl) (by kernel_rfl) (by kernel_rfl) (fun _ _ _ h => by cases h.1) (.inl ⟨by rfl, fun w _ => by go_simp⟩) hH ?_
          (try simp only [Act.put, List.setIfInBounds_toArray, List.set_cons_succ, List.set_cons_zero])
          refine wpAnyH_ready (rs := [11]) (by kernel_rfl) (by simp) (AllReadyH.cons rfl (fun K hK => ?_) AllReadyH.nil)
          rw [if_pos (by rfl)]
          unfold Oper.wp
          rw [run_storemid 35 (.tmp 7) (.tmp 19) rfl b5 0 rfl 266 266 Sh.zero.at r.at rfl 35 size_sheet V (by omega) (fun i _ => r.one i), vrow_over_all, Oper.upon_skip]
          have V2 := row_set V (vrow 266 r.at)
          have hH2 : Below w.heap.size w (X12.setRow b5 (vrow 266 r.at)) ∧ (X12.setRow b5 (vrow 266 r.at)).heap[w.heap.size]? = some (.cells (vrow 266 s.at) 31) ∧ (X12.setRow b5 (vrow 266 r.at)).heap[w.heap.size + 1]? = some (.cells (vrow 2 (spAt x y)) 64) ∧ (X12.setRow b5 (vrow 266 r.at)).heap[w.heap.size + 2]? = some (.cells (vrow 2 (spAt u v)) 64) := ⟨Below_setRow hH.1 (by omega) _, row_set' (by omega) hH.2.1 _, row_set' (by omega) hH.2.2.1 _, row_set' (by omega) hH.2.2.2 _⟩
          refine hK.out _ _ hH2 (fun hH => ?_)
          clear hK K hH2
          (try simp only [Act.put, List.setIfInBounds_toArray, List.set_cons_succ, List.set_cons_zero])
          refine wpAnyH_take (i := 12) (v := (.int .i64 c)) rfl (by kernel_rfl) (by kernel_rfl) (by kernel_rfl) (fun _ _ _ h => by cases h.1) (.inl ⟨by rfl, fun w _ => by go_simp⟩) hH ?_
          (try simp only [Act.put, List.setIfInBounds_toArray, List.set_cons_succ, List.set_cons_zero])
          refine wpAnyH_done (by kernel_rfl) ?_ _
          exact ⟨rfl, b5, rfl, hH, V2⟩
      · rw [if_pos (by rfl)]
        go_simp
        have V := heap_at X1 (.cells Sh.zero.row 35) _ rfl
        have n0 := row_lt hH.2.1
        have n1 := row_lt hH.2.2.1
        have n2 := row_lt hH.2.2.2
        replace hH : Below w.heap.size w (X1.alloc (.cells Sh.zero.row 35)) ∧ (X1.alloc (.cells Sh.zero.row 35)).heap[w.heap.size]? = some (.cells (vrow 266 s.at) 31) ∧ (X1.alloc (.cells Sh.zero.row 35)).heap[w.heap.size + 1]? = some (.cells (vrow 2 (spAt x y)) 64) ∧ (X1.alloc (.cells Sh.zero.row 35)).heap[w.heap.size + 2]? = some (.cells (vrow 2 (spAt u v)) 64) := ⟨hH.1.alloc hH.1.size _, heap_past _ _ _ _ (row_lt hH.2.1) hH.2.1, heap_past _ _ _ _ (row_lt hH.2.2.1) hH.2.2.1, heap_past _ _ _ _ (row_lt hH.2.2.2) hH.2.2.2⟩
        refine hK.out _ _ hH (fun hH => ?_)
        clear hK K
        (try simp only [Act.put, List.setIfInBounds_toArray, List.set_cons_succ, List.set_cons_zero])
        generalize hb7 : X1.heap.size = b5 at V n0 n1 n2 ⊢
        generalize X1.alloc _ = Y4 at hH V ⊢
        clear hb7
        refine wpAnyH_ready (rs := [3]) (by kernel_rfl) (by simp) (AllReadyH.cons rfl (fun K hK => ?_) AllReadyH.nil)
        rw [if_pos (by rfl)]
        go_simp
        go_at_call 45
        refine (HT1.out _).mono ?_
        rintro o X13 ⟨rfl, hb⟩
        replace hH : Below w.heap.size w X13 ∧ X13.heap[w.heap.size]? = some (.cells (vrow 266 s.at) 31) ∧ X13.heap[w.heap.size + 1]? = some (.cells (vrow 2 (spAt x y)) 64) ∧ X13.heap[w.heap.size + 2]? = some (.cells (vrow 2 (spAt u v)) 64) := ⟨hH.1.trans (hb.mono hH.1.size), row_next hb hH.2.1, row_next hb hH.2.2.1, row_next hb hH.2.2.2⟩
        replace V := row_next hb V
        clear hb
        refine hK.out _ _ hH (fun hH => ?_)
        clear hK K
        (try simp only [Act.put, List.setIfInBounds_toArray, List.set_cons_succ, List.set_cons_zero])
        refine wpAnyH_ready (rs := [5]) (by kernel_rfl) (by simp) (AllReadyH.cons rfl (fun K hK => ?_) AllReadyH.nil)
        rw [if_pos (by rfl)]
        go_simp
        go_at_call 45
        refine (HT2.out _).mono ?_
        rintro o X14 ⟨rfl, hb⟩
        replace hH : Below w.heap.size w X14 ∧ X14.heap[w.heap.size]? = some (.cells (vrow 266 s.at) 31) ∧ X14.heap[w.heap.size + 1]? = some (.cells (vrow 2 (spAt x y)) 64) ∧ X14.heap[w.heap.size + 2]? = some (.cells (vrow 2 (spAt u v)) 64) := ⟨hH.1.trans (hb.mono hH.1.size), row_next hb hH.2.1, row_next hb hH.2.2.1, row_next hb hH.2.2.2⟩
        replace V := row_next hb V
        clear hb
        refine hK.out _ _ hH (fun hH => ?_)
        clear hK K
        (try simp only [Act.put, List.setIfInBounds_toArray, List.set_cons_succ, List.set_cons_zero])
        refine wpAnyH_ready (rs := [6]) (by kernel_rfl) (by simp) (AllReadyH.cons rfl (fun K hK => ?_) AllReadyH.nil)
        rw [if_pos (by rfl)]
        go_simp
        go_at_call 44
        refine (HS.out _).mono ?_
        rintro o X15 ⟨rfl, hb⟩
        replace hH : Below w.heap.size w X15 ∧ X15.heap[w.heap.size]? = some (.cells (vrow 266 s.at) 31) ∧ X15.heap[w.heap.size + 1]? = some (.cells (vrow 2 (spAt x y)) 64) ∧ X15.heap[w.heap.size + 2]? = some (.cells (vrow 2 (spAt u v)) 64) := ⟨hH.1.trans (hb.mono hH.1.size), row_next hb hH.2.1, row_next hb hH.2.2.1, row_next hb hH.2.2.2⟩
        replace V := row_next hb V
        clear hb
        refine hK.out _ _ hH (fun hH => ?_)
        clear hK K
        (try simp only [Act.put, List.setIfInBounds_toArray, List.set_cons_succ, List.set_cons_zero])
        refine wpAnyH_take (i := 7) (v := (.tuple #[.agg r.row, .int .i64 c])) rfl (by kernel_rfl) (by kernel_rfl) (by kernel_rfl) (fun _ _ _ h => by cases h.1) (.inl ⟨by rfl, fun w _ => by go_simp⟩) hH ?_
        (try simp only [Act.put, List.setIfInBounds_toArray, List.set_cons_succ, List.set_cons_zero])
        refine wpAnyH_take (i := 8) (v := (.agg r.row)) rfl (by kernel_rfl) (by kernel_rfl) (by kernel_rfl) (fun _ _ _ h => by cases h.1) (.inl ⟨by rfl, fun w _ => by go_simp⟩) hH ?_
        (try simp only [Act.put, List.setIfInBounds_toArray, List.set_cons_succ, List.set_cons_zero])
        refine wpAnyH_take (i := 9) (v := (.int .i64 c)) rfl (by kernel_rfl) (by kernel_rfl) (by kernel_rfl) (fun _ _ _ h => by cases h.1) (.inl ⟨by rfl, fun w _ => by go_simp⟩) hH ?_
        (try simp only [Act.put, List.setIfInBounds_toArray, List.set_cons_succ, List.set_cons_zero])
        refine wpAnyH_ready (rs := [11]) (by kernel_rfl) (by simp) (AllReadyH.cons rfl (fun K hK => ?_) AllReadyH.nil)
        rw [if_pos (by rfl)]
        unfold Oper.wp
        rw [run_storemid 35 (.tmp 7) (.tmp 19) rfl b5 0 rfl 266 266 Sh.zero.at r.at rfl 35 size_sheet V (by omega) (fun i _ => r.one i), vrow_over_all, Oper.upon_skip]
        have V2 := row_set V (vrow 266 r.at)
        have hH2 : Below w.heap.size w (X15.setRow b5 (vrow 266 r.at)) ∧ (X15.setRow b5 (vrow 266 r.at)).heap[w.heap.size]? = some (.cells (vrow 266 s.at) 31) ∧ (X15.setRow b5 (vrow 266 r.at)).heap[w.heap.size + 1]? = some (.cells (vrow 2 (spAt x y)) 64) ∧ (X15.setRow b5 (vrow 266 r.at)).heap[w.heap.size + 2]? = some (.cells (vrow 2 (spAt u v)) 64) := ⟨Below_setRow hH.1 (by omega) _, row_set' (by omega) hH.2.1 _, row_set' (by omega) hH.2.2.1 _, row_set' (by omega) hH.2.2.2 _⟩
        refine hK.out _ _ hH2 (fun hH => ?_)
        clear hK K hH2
        (try simp only [Act.put, List.setIfInBounds_toArray, List.set_cons_succ, List.set_cons_zero])
        refine wpAnyH_take (i := 12) (v := (.int .i64 c)) rfl (by kernel_rfl) (by kernel_rfl) (by kernel_rfl) (fun _ _ _ h => by cases h.1) (.inl ⟨by rfl, fun w _ => by go_simp⟩) hH ?_
        (try simp only [Act.put, List.setIfInBounds_toArray, List.set_cons_succ, List.set_cons_zero])
        refine wpAnyH_done (by kernel_rfl) ?_ _
        exact ⟨rfl, b5, rfl, hH, V2⟩
    · rw [if_pos (by rfl)]
      go_simp
      have V := heap_at W (.cells Sh.zero.row 35) _ rfl
      have n0 := row_lt hH.2.1
      have n1 := row_lt hH.2.2.1
      have n2 := row_lt hH.2.2.2
      replace hH : Below w.heap.size w (W.alloc (.cells Sh.zero.row 35)) ∧ (W.alloc (.cells Sh.zero.row 35)).heap[w.heap.size]? = some (.cells (vrow 266 s.at) 31) ∧ (W.alloc (.cells Sh.zero.row 35)).heap[w.heap.size + 1]? = some (.cells (vrow 2 (spAt x y)) 64) ∧ (W.alloc (.cells Sh.zero.row 35)).heap[w.heap.size + 2]? = some (.cells (vrow 2 (spAt u v)) 64) := ⟨hH.1.alloc hH.1.size _, heap_past _ _ _ _ (row_lt hH.2.1) hH.2.1, heap_past _ _ _ _ (row_lt hH.2.2.1) hH.2.2.1, heap_past _ _ _ _ (row_lt hH.2.2.2) hH.2.2.2⟩
      refine hK.out _ _ hH (fun hH => ?_)
      clear hK K
      (try simp only [Act.put, List.setIfInBounds_toArray, List.set_cons_succ, List.set_cons_zero])
      generalize hb7 : W.heap.size = b5 at V n0 n1 n2 ⊢
      generalize W.alloc _ = Y2 at hH V ⊢
      clear hb7
      refine wpAnyH_ready (rs := [1]) (by kernel_rfl) (by simp) (AllReadyH.cons rfl (fun K hK => ?_) AllReadyH.nil)
      rw [if_pos (by rfl)]
      go_simp
      go_at_call 16
      refine (HT0.out _).mono ?_
      rintro o X16 ⟨rfl, hb⟩
      replace hH : Below w.heap.size w X16 ∧ X16.heap[w.heap.size]? = some (.cells (vrow 266 s.at) 31) ∧ X16.heap[w.heap.size + 1]? = some (.cells (vrow 2 (spAt x y)) 64) ∧ X16.heap[w.heap.size + 2]? = some (.cells (vrow 2 (spAt u v)) 64) := ⟨hH.1.trans (hb.mono hH.1.size), row_next hb hH.2.1, row_next hb hH.2.2.1, row_next hb hH.2.2.2⟩
      replace V := row_next hb V
      clear hb
      refine hK.out _ _ hH (fun hH => ?_)
      clear hK K
      (try simp only [Act.put, List.setIfInBounds_toArray, List.set_cons_succ, List.set_cons_zero])
      refine wpAnyH_ready (rs := [3]) (by kernel_rfl) (by simp) (AllReadyH.cons rfl (fun K hK => ?_) AllReadyH.nil)
      rw [if_pos (by rfl)]
      go_simp
      go_at_call 45
      refine (HT1.out _).mono ?_
      rintro o X17 ⟨rfl, hb⟩
      replace hH : Below w.heap.size w X17 ∧ X17.heap[w.heap.size]? = some (.cells (vrow 266 s.at) 31) ∧ X17.heap[w.heap.size + 1]? = some (.cells (vrow 2 (spAt x y)) 64) ∧ X17.heap[w.heap.size + 2]? = some (.cells (vrow 2 (spAt u v)) 64) := ⟨hH.1.trans (hb.mono hH.1.size), row_next hb hH.2.1, row_next hb hH.2.2.1, row_next hb hH.2.2.2⟩
      replace V := row_next hb V
      clear hb
      refine hK.out _ _ hH (fun hH => ?_)
      clear hK K
      (try simp only [Act.put, List.setIfInBounds_toArray, List.set_cons_succ, List.set_cons_zero])
      refine wpAnyH_ready (rs := [5]) (by kernel_rfl) (by simp) (AllReadyH.cons rfl (fun K hK => ?_) AllReadyH.nil)
      rw [if_pos (by rfl)]
      go_simp
      go_at_call 45
      refine (HT2.out _).mono ?_
      rintro o X18 ⟨rfl, hb⟩
      replace hH : Below w.heap.size w X18 ∧ X18.heap[w.heap.size]? = some (.cells (vrow 266 s.at) 31) ∧ X18.heap[w.heap.size + 1]? = some (.cells (vrow 2 (spAt x y)) 64) ∧ X18.heap[w.heap.size + 2]? = some (.cells (vrow 2 (spAt u v)) 64) := ⟨hH.1.trans (hb.mono hH.1.size), row_next hb hH.2.1, row_next hb hH.2.2.1, row_next hb hH.2.2.2⟩
      replace V := row_next hb V
      clear hb
      refine hK.out _ _ hH (fun hH => ?_)
      clear hK K
      (try simp only [Act.put, List.setIfInBounds_toArray, List.set_cons_succ, List.set_cons_zero])
      refine wpAnyH_ready (rs := [6]) (by kernel_rfl) (by simp) (AllReadyH.cons rfl (fun K hK => ?_) AllReadyH.nil)
      rw [if_pos (by rfl)]
      go_simp
      go_at_call 44
      refine (HS.out _).mono ?_
      rintro o X19 ⟨rfl, hb⟩
      replace hH : Below w.heap.size w X19 ∧ X19.heap[w.heap.size]? = some (.cells (vrow 266 s.at) 31) ∧ X19.heap[w.heap.size + 1]? = some (.cells (vrow 2 (spAt x y)) 64) ∧ X19.heap[w.heap.size + 2]? = some (.cells (vrow 2 (spAt u v)) 64) := ⟨hH.1.trans (hb.mono hH.1.size), row_next hb hH.2.1, row_next hb hH.2.2.1, row_next hb hH.2.2.2⟩
      replace V := row_next hb V
      clear hb
      refine hK.out _ _ hH (fun hH => ?_)
      clear hK K
      (try simp only [Act.put, List.setIfInBounds_toArray, List.set_cons_succ, List.set_cons_zero])
      refine wpAnyH_take (i := 7) (v := (.tuple #[.agg r.row, .int .i64 c])) rfl (by kernel_rfl) (by kernel_rfl) (by kernel_rfl) (fun _ _ _ h => by cases h.1) (.inl ⟨by rfl, fun w _ => by go_simp⟩) hH ?_
      (try simp only [Act.put, List.setIfInBounds_toArray, List.set_cons_succ, List.set_cons_zero])
      refine wpAnyH_take (i := 8) (v := (.agg r.row)) rfl (by kernel_rfl) (by kernel_rfl) (by kernel_rfl) (fun _ _ _ h => by cases h.1) (.inl ⟨by rfl, fun w _ => by go_simp⟩) hH ?_
      (try simp only [Act.put, List.setIfInBounds_toArray, List.set_cons_succ, List.set_cons_zero])
      refine wpAnyH_take (i := 9) (v := (.int .i64 c)) rfl (by kernel_rfl) (by kernel_rfl) (by kernel_rfl) (fun _ _ _ h => by cases h.1) (.inl ⟨by rfl, fun w _ => by go_simp⟩) hH ?_
      (try simp only [Act.put, List.setIfInBounds_toArray, List.set_cons_succ, List.set_cons_zero])
      refine wpAnyH_ready (rs := [11]) (by kernel_rfl) (by simp) (AllReadyH.cons rfl (fun K hK => ?_) AllReadyH.nil)
      rw [if_pos (by rfl)]
      unfold Oper.wp
      rw [run_storemid 35 (.tmp 7) (.tmp 19) rfl b5 0 rfl 266 266 Sh.zero.at r.at rfl 35 size_sheet V (by omega) (fun i _ => r.one i), vrow_over_all, Oper.upon_skip]
      have V2 := row_set V (vrow 266 r.at)
      have hH2 : Below w.heap.size w (X19.setRow b5 (vrow 266 r.at)) ∧ (X19.setRow b5 (vrow 266 r.at)).heap[w.heap.size]? = some (.cells (vrow 266 s.at) 31) ∧ (X19.setRow b5 (vrow 266 r.at)).heap[w.heap.size + 1]? = some (.cells (vrow 2 (spAt x y)) 64) ∧ (X19.setRow b5 (vrow 266 r.at)).heap[w.heap.size + 2]? = some (.cells (vrow 2 (spAt u v)) 64) := ⟨Below_setRow hH.1 (by omega) _, row_set' (by omega) hH.2.1 _, row_set' (by omega) hH.2.2.1 _, row_set' (by omega) hH.2.2.2 _⟩
      refine hK.out _ _ hH2 (fun hH => ?_)
      clear hK K hH2
      (try simp only [Act.put, List.setIfInBounds_toArray, List.set_cons_succ, List.set_cons_zero])
      refine wpAnyH_take (i := 12) (v := (.int .i64 c)) rfl (by kernel_rfl) (by kernel_rfl) (by kernel_rfl) (fun _ _ _ h => by cases h.1) (.inl ⟨by rfl, fun w _ => by go_simp⟩) hH ?_
      (try simp only [Act.put, List.setIfInBounds_toArray, List.set_cons_succ, List.set_cons_zero])
      refine wpAnyH_done (by kernel_rfl) ?_ _
      exact ⟨rfl, b5, rfl, hH, V2⟩
  · rintro e1 a1 W1 ⟨rfl, b5, rfl, ⟨hB, P0, P1, P2⟩, V5⟩
    replace hB := Go.Lib.hid hB; replace P0 := Go.Lib.hid P0; replace P1 := Go.Lib.hid P1; replace P2 := Go.Lib.hid P2; replace V5 := Go.Lib.hid V5
    go_wp2
    refine Code.wp_mono (Q := fun e a' W' => e = .normal ∧ ∃ b7, a' = { tmps := #[.agg s.row, .agg (vrow 2 (spAt x y)), .agg (vrow 2 (spAt u v)), .pointer (some ⟨w.heap.size, 0, none⟩), .pointer (some ⟨w.heap.size + 1, 0, none⟩), .pointer (some ⟨w.heap.size + 2, 0, none⟩), .bool false, .pointer (some ⟨b5, 0, none⟩), .int .i64 c, .pointer (some ⟨b7, 0, none⟩), .int .i64 c, .tuple #[.agg r.row, .int .i64 c], .agg s.row, .agg s.row, .agg (vrow 2 (spAt x y)), .agg (vrow 2 (spAt x y)), .agg (vrow 2 (spAt u v)), .agg (vrow 2 (spAt u v)), .tuple #[.agg r.row, .int .i64 c], .agg r.row, .int .i64 c, .tuple #[.agg r.row, .int .i64 c], .agg s.row, .agg s.row, .agg (vrow 2 (spAt x y)), .agg (vrow 2 (spAt x y)), .agg (vrow 2 (spAt u v)), .agg (vrow 2 (spAt u v)), .tuple #[.agg r.row, .int .i64 c], .agg r.row, .int .i64 c, undef, undef, undef, undef, undef, undef, undef, undef, undef], defers := [] } ∧ (Below w.heap.size w W' ∧ W'.heap[w.heap.size]? = some (.cells (vrow 266 s.at) 31) ∧ W'.heap[w.heap.size + 1]? = some (.cells (vrow 2 (spAt x y)) 64) ∧ W'.heap[w.heap.size + 2]? = some (.cells (vrow 2 (spAt u v)) 64) ∧ W'.heap[b5]? = some (.cells (vrow 266 r.at) 35)) ∧ W'.heap[b7]? = some (.cells (vrow 266 r.at) 35)) ?_ ?_
    rotate_left
    · refine wp_region_held_drew (S := fun W' => Below w.heap.size w W' ∧ W'.heap[w.heap.size]? = some (.cells (vrow 266 s.at) 31) ∧ W'.heap[w.heap.size + 1]? = some (.cells (vrow 2 (spAt x y)) 64) ∧ W'.heap[w.heap.size + 2]? = some (.cells (vrow 2 (spAt u v)) 64) ∧ W'.heap[b5]? = some (.cells (vrow 266 r.at) 35)) (by kernel_rfl) ⟨hB.out.drew, P0.out, P1.out, P2.out, V5.out⟩ (fun hH => ?_)
      clear hB P0 P1 P2 V5
      generalize World.drew _ = W at hH ⊢
      refine wpAnyH_take (i := 0) (v := (.agg (vrow 266 s.at))) rfl (by kernel_rfl) (by kernel_rfl) (by kernel_rfl) (fun _ _ _ h => by cases h.1) (yields_row (by rfl) 31 _ rfl (w.heap.size) rfl 266 s.at 31 _ Tryd.underlying31 rfl size_lsheet (fun _ h => h.2.1)) hH ?_
      (try simp only [Act.put, List.setIfInBounds_toArray, List.set_cons_succ, List.set_cons_zero])
      refine wpAnyH_take (i := 2) (v := (.agg (vrow 2 (spAt x y)))) rfl (by kernel_rfl) (by kernel_rfl) (by kernel_rfl) (fun _ _ _ h => by cases h.1) (yields_row (by rfl) 64 _ rfl (w.heap.size + 1) rfl 2 (spAt x y) 64 _ Tryd.underlying64 rfl size_lspot (fun _ h => h.2.2.1)) hH ?_
      (try simp only [Act.put, List.setIfInBounds_toArray, List.set_cons_succ, List.set_cons_zero])
      refine wpAnyH_take (i := 4) (v := (.agg (vrow 2 (spAt u v)))) rfl (by kernel_rfl) (by kernel_rfl) (by kernel_rfl) (fun _ _ _ h => by cases h.1) (yields_row (by rfl) 64 _ rfl (w.heap.size + 2) rfl 2 (spAt u v) 64 _ Tryd.underlying64 rfl size_lspot (fun _ h => h.2.2.2.1)) hH ?_
      (try simp only [Act.put, List.setIfInBounds_toArray, List.set_cons_succ, List.set_cons_zero])
      refine wpAnyH_ready (rs := [1, 10]) (by kernel_rfl) (by simp) (AllReadyH.cons rfl (fun K hK => ?_) (AllReadyH.cons rfl (fun K hK => ?_) AllReadyH.nil))
      · rw [if_pos (by rfl)]
        go_simp
        go_at_call 16
        refine (HT0.out _).mono ?_
        rintro o X20 ⟨rfl, hb⟩
        replace hH : Below w.heap.size w X20 ∧ X20.heap[w.heap.size]? = some (.cells (vrow 266 s.at) 31) ∧ X20.heap[w.heap.size + 1]? = some (.cells (vrow 2 (spAt x y)) 64) ∧ X20.heap[w.heap.size + 2]? = some (.cells (vrow 2 (spAt u v)) 64) ∧ X20.heap[b5]? = some (.cells (vrow 266 r.at) 35) := ⟨hH.1.trans (hb.mono hH.1.size), row_next hb hH.2.1, row_next hb hH.2.2.1, row_next hb hH.2.2.2.1, row_next hb hH.2.2.2.2⟩
        clear hb
        refine hK.out _ _ hH (fun hH => ?_)
        clear hK K
        (try simp only [Act.put, List.setIfInBounds_toArray, List.set_cons_succ, List.set_cons_zero])
        refine wpAnyH_ready (rs := [3, 10]) (by kernel_rfl) (by simp) (AllReadyH.cons rfl (fun K hK => ?_) (AllReadyH.cons rfl (fun K hK => ?_) AllReadyH.nil))
        · rw [if_pos (by rfl)]
          go_simp
          go_at_call 45
          refine (HT1.out _).mono ?_
          rintro o X22 ⟨rfl, hb⟩
          replace hH : Below w.heap.size w X22 ∧ X22.heap[w.heap.size]? = some (.cells (vrow 266 s.at) 31) ∧ X22.heap[w.heap.size + 1]? = some (.cells (vrow 2 (spAt x y)) 64) ∧ X22.heap[w.heap.size + 2]? = some (.cells (vrow 2 (spAt u v)) 64) ∧ X22.heap[b5]? = some (.cells (vrow 266 r.at) 35) := ⟨hH.1.trans (hb.mono hH.1.size), row_next hb hH.2.1, row_next hb hH.2.2.1, row_next hb hH.2.2.2.1, row_next hb hH.2.2.2.2⟩
          clear hb
          refine hK.out _ _ hH (fun hH => ?_)
          clear hK K
          (try simp only [Act.put, List.setIfInBounds_toArray, List.set_cons_succ, List.set_cons_zero])
          refine wpAnyH_ready (rs := [5, 10]) (by kernel_rfl) (by simp) (AllReadyH.cons rfl (fun K hK => ?_) (AllReadyH.cons rfl (fun K hK => ?_) AllReadyH.nil))
          · rw [if_pos (by rfl)]
            go_simp
            go_at_call 45
            refine (HT2.out _).mono ?_
            rintro o X24 ⟨rfl, hb⟩
            replace hH : Below w.heap.size w X24 ∧ X24.heap[w.heap.size]? = some (.cells (vrow 266 s.at) 31) ∧ X24.heap[w.heap.size + 1]? = some (.cells (vrow 2 (spAt x y)) 64) ∧ X24.heap[w.heap.size + 2]? = some (.cells (vrow 2 (spAt u v)) 64) ∧ X24.heap[b5]? = some (.cells (vrow 266 r.at) 35) := ⟨hH.1.trans (hb.mono hH.1.size), row_next hb hH.2.1, row_next hb hH.2.2.1, row_next hb hH.2.2.2.1, row_next hb hH.2.2.2.2⟩
            clear hb
            refine hK.out _ _ hH (fun hH => ?_)
            clear hK K
            (try simp only [Act.put, List.setIfInBounds_toArray, List.set_cons_succ, List.set_cons_zero])
            refine wpAnyH_ready (rs := [6, 10]) (by kernel_rfl) (by simp) (AllReadyH.cons rfl (fun K hK => ?_) (AllReadyH.cons rfl (fun K hK => ?_) AllReadyH.nil))
            · rw [if_pos (by rfl)]
              go_simp
              go_at_call 46
              refine (HI.out _ (hE.next hH.1)).mono ?_
              rintro o X26 ⟨rfl, hb⟩
              replace hH : Below w.heap.size w X26 ∧ X26.heap[w.heap.size]? = some (.cells (vrow 266 s.at) 31) ∧ X26.heap[w.heap.size + 1]? = some (.cells (vrow 2 (spAt x y)) 64) ∧ X26.heap[w.heap.size + 2]? = some (.cells (vrow 2 (spAt u v)) 64) ∧ X26.heap[b5]? = some (.cells (vrow 266 r.at) 35) := ⟨hH.1.trans (hb.mono hH.1.size), row_next hb hH.2.1, row_next hb hH.2.2.1, row_next hb hH.2.2.2.1, row_next hb hH.2.2.2.2⟩
              clear hb
              refine hK.out _ _ hH (fun hH => ?_)
              clear hK K
              (try simp only [Act.put, List.setIfInBounds_toArray, List.set_cons_succ, List.set_cons_zero])
              refine wpAnyH_take (i := 7) (v := (.tuple #[.agg r.row, .int .i64 c])) rfl (by kernel_rfl) (by kernel_rfl) (by kernel_rfl) (fun _ _ _ h => by cases h.1) (.inl ⟨by rfl, fun w _ => by go_simp⟩) hH ?_
              (try simp only [Act.put, List.setIfInBounds_toArray, List.set_cons_succ, List.set_cons_zero])
              refine wpAnyH_take (i := 8) (v := (.agg r.row)) rfl (by kernel_rfl) (by kernel_rfl) (by kernel_rfl) (fun _ _ _ h => by cases h.1) (.inl ⟨by rfl, fun w _ => by go_simp⟩) hH ?_
              (try simp only [Act.put, List.setIfInBounds_toArray, List.set_cons_succ, List.set_cons_zero])
              refine wpAnyH_take (i := 9) (v := (.int .i64 c)) rfl (by kernel_rfl) (by kernel_rfl) (by kernel_rfl) (fun _ _ _ h => by cases h.1) (.inl ⟨by rfl, fun w _ => by go_simp⟩) hH ?_
              (try simp only [Act.put, List.setIfInBounds_toArray, List.set_cons_succ, List.set_cons_zero])
              refine wpAnyH_ready (rs := [10]) (by kernel_rfl) (by simp) (AllReadyH.cons rfl (fun K hK => ?_) AllReadyH.nil)
              rw [if_pos (by rfl)]
              go_simp
              have V := heap_at X26 (.cells Sh.zero.row 35) _ rfl
              have n0 := row_lt hH.2.1
              have n1 := row_lt hH.2.2.1
              have n2 := row_lt hH.2.2.2.1
              have n3 := row_lt hH.2.2.2.2
              replace hH : Below w.heap.size w (X26.alloc (.cells Sh.zero.row 35)) ∧ (X26.alloc (.cells Sh.zero.row 35)).heap[w.heap.size]? = some (.cells (vrow 266 s.at) 31) ∧ (X26.alloc (.cells Sh.zero.row 35)).heap[w.heap.size + 1]? = some (.cells (vrow 2 (spAt x y)) 64) ∧ (X26.alloc (.cells Sh.zero.row 35)).heap[w.heap.size + 2]? = some (.cells (vrow 2 (spAt u v)) 64) ∧ (X26.alloc (.cells Sh.zero.row 35)).heap[b5]? = some (.cells (vrow 266 r.at) 35) := ⟨hH.1.alloc hH.1.size _, heap_past _ _ _ _ (row_lt hH.2.1) hH.2.1, heap_past _ _ _ _ (row_lt hH.2.2.1) hH.2.2.1, heap_past _ _ _ _ (row_lt hH.2.2.2.1) hH.2.2.2.1, heap_past _ _ _ _ (row_lt hH.2.2.2.2) hH.2.2.2.2⟩
              refine hK.out _ _ hH (fun hH => ?_)
              clear hK K
              (try simp only [Act.put, List.setIfInBounds_toArray, List.set_cons_succ, List.set_cons_zero])
              generalize hb7 : X26.heap.size = b7 at V n0 n1 n2 n3 ⊢
              generalize X26.alloc _ = Y28 at hH V ⊢
              clear hb7
              refine wpAnyH_ready (rs := [11]) (by kernel_rfl) (by simp) (AllReadyH.cons rfl (fun K hK => ?_) AllReadyH.nil)
              rw [if_pos (by rfl)]
              unfold Oper.wp
              rw [run_storemid 35 (.tmp 9) (.tmp 29) rfl b7 0 rfl 266 266 Sh.zero.at r.at rfl 35 size_sheet V (by omega) (fun i _ => r.one i), vrow_over_all, Oper.upon_skip]
              have V2 := row_set V (vrow 266 r.at)
              have hH2 : Below w.heap.size w (Y28.setRow b7 (vrow 266 r.at)) ∧ (Y28.setRow b7 (vrow 266 r.at)).heap[w.heap.size]? = some (.cells (vrow 266 s.at) 31) ∧ (Y28.setRow b7 (vrow 266 r.at)).heap[w.heap.size + 1]? = some (.cells (vrow 2 (spAt x y)) 64) ∧ (Y28.setRow b7 (vrow 266 r.at)).heap[w.heap.size + 2]? = some (.cells (vrow 2 (spAt u v)) 64) ∧ (Y28.setRow b7 (vrow 266 r.at)).heap[b5]? = some (.cells (vrow 266 r.at) 35) := ⟨Below_setRow hH.1 (by omega) _, row_set' (by omega) hH.2.1 _, row_set' (by omega) hH.2.2.1 _, row_set' (by omega) hH.2.2.2.1 _, row_set' (by omega) hH.2.2.2.2 _⟩
              refine hK.out _ _ hH2 (fun hH => ?_)
              clear hK K hH2
              (try simp only [Act.put, List.setIfInBounds_toArray, List.set_cons_succ, List.set_cons_zero])
              refine wpAnyH_take (i := 12) (v := (.int .i64 c)) rfl (by kernel_rfl) (by kernel_rfl) (by kernel_rfl) (fun _ _ _ h => by cases h.1) (.inl ⟨by rfl, fun w _ => by go_simp⟩) hH ?_
              (try simp only [Act.put, List.setIfInBounds_toArray, List.set_cons_succ, List.set_cons_zero])
              refine wpAnyH_done (by kernel_rfl) ?_ _
              exact ⟨rfl, b7, rfl, hH, V2⟩
            · rw [if_pos (by rfl)]
              go_simp
              have V := heap_at X24 (.cells Sh.zero.row 35) _ rfl
              have n0 := row_lt hH.2.1
              have n1 := row_lt hH.2.2.1
              have n2 := row_lt hH.2.2.2.1
              have n3 := row_lt hH.2.2.2.2
              replace hH : Below w.heap.size w (X24.alloc (.cells Sh.zero.row 35)) ∧ (X24.alloc (.cells Sh.zero.row 35)).heap[w.heap.size]? = some (.cells (vrow 266 s.at) 31) ∧ (X24.alloc (.cells Sh.zero.row 35)).heap[w.heap.size + 1]? = some (.cells (vrow 2 (spAt x y)) 64) ∧ (X24.alloc (.cells Sh.zero.row 35)).heap[w.heap.size + 2]? = some (.cells (vrow 2 (spAt u v)) 64) ∧ (X24.alloc (.cells Sh.zero.row 35)).heap[b5]? = some (.cells (vrow 266 r.at) 35) := ⟨hH.1.alloc hH.1.size _, heap_past _ _ _ _ (row_lt hH.2.1) hH.2.1, heap_past _ _ _ _ (row_lt hH.2.2.1) hH.2.2.1, heap_past _ _ _ _ (row_lt hH.2.2.2.1) hH.2.2.2.1, heap_past _ _ _ _ (row_lt hH.2.2.2.2) hH.2.2.2.2⟩
              refine hK.out _ _ hH (fun hH => ?_)
              clear hK K
              (try simp only [Act.put, List.setIfInBounds_toArray, List.set_cons_succ, List.set_cons_zero])
              generalize hb7 : X24.heap.size = b7 at V n0 n1 n2 n3 ⊢
              generalize X24.alloc _ = Y27 at hH V ⊢
              clear hb7
              refine wpAnyH_ready (rs := [6]) (by kernel_rfl) (by simp) (AllReadyH.cons rfl (fun K hK => ?_) AllReadyH.nil)
              rw [if_pos (by rfl)]
              go_simp
              go_at_call 46
              refine (HI.out _ (hE.next hH.1)).mono ?_
              rintro o X29 ⟨rfl, hb⟩
              replace hH : Below w.heap.size w X29 ∧ X29.heap[w.heap.size]? = some (.cells (vrow 266 s.at) 31) ∧ X29.heap[w.heap.size + 1]? = some (.cells (vrow 2 (spAt x y)) 64) ∧ X29.heap[w.heap.size + 2]? = some (.cells (vrow 2 (spAt u v)) 64) ∧ X29.heap[b5]? = some (.cells (vrow 266 r.at) 35) := ⟨hH.1.trans (hb.mono hH.1.size), row_next hb hH.2.1, row_next hb hH.2.2.1, row_next hb hH.2.2.2.1, row_next hb hH.2.2.2.2⟩
              replace V := row_next hb V
              clear hb
              refine hK.out _ _ hH (fun hH => ?_)
              clear hK K
              (try simp only [Act.put, List.setIfInBounds_toArray, List.set_cons_succ, List.set_cons_zero])
              refine wpAnyH_take (i := 7) (v := (.tuple #[.agg r.row, .int .i64 c])) rfl (by kernel_rfl) (by kernel_rfl) (by kernel_rfl) (fun _ _ _ h => by cases h.1) (.inl ⟨by rfl, fun w _ => by go_simp⟩) hH ?_
              (try simp only [Act.put, List.setIfInBounds_toArray, List.set_cons_succ, List.set_cons_zero])
              refine wpAnyH_take (i := 8) (v := (.agg r.row)) rfl (by kernel_rfl) (by kernel_rfl) (by kernel_rfl) (fun _ _ _ h => by cases h.1) (.inl ⟨by rfl, fun w _ => by go_simp⟩) hH ?_
              (try simp only [Act.put, List.setIfInBounds_toArray, List.set_cons_succ, List.set_cons_zero])
              refine wpAnyH_take (i := 9) (v := (.int .i64 c)) rfl (by kernel_rfl) (by kernel_rfl) (by kernel_rfl) (fun _ _ _ h => by cases h.1) (.inl ⟨by rfl, fun w _ => by go_simp⟩) hH ?_
              (try simp only [Act.put, List.setIfInBounds_toArray, List.set_cons_succ, List.set_cons_zero])
              refine wpAnyH_ready (rs := [11]) (by kernel_rfl) (by simp) (AllReadyH.cons rfl (fun K hK => ?_) AllReadyH.nil)
              rw [if_pos (by rfl)]
              unfold Oper.wp
              rw [run_storemid 35 (.tmp 9) (.tmp 29) rfl b7 0 rfl 266 266 Sh.zero.at r.at rfl 35 size_sheet V (by omega) (fun i _ => r.one i), vrow_over_all, Oper.upon_skip]
              have V2 := row_set V (vrow 266 r.at)
              have hH2 : Below w.heap.size w (X29.setRow b7 (vrow 266 r.at)) ∧ (X29.setRow b7 (vrow 266 r.at)).heap[w.heap.size]? = some (.cells (vrow 266 s.at) 31) ∧ (X29.setRow b7 (vrow 266 r.at)).heap[w.heap.size + 1]? = some (.cells (vrow 2 (spAt x y)) 64) ∧ (X29.setRow b7 (vrow 266 r.at)).heap[w.heap.size + 2]? = some (.cells (vrow 2 (spAt u v)) 64) ∧ (X29.setRow b7 (vrow 266 r.at)).heap[b5]? = some (.cells (vrow 266 r.at) 35) := ⟨Below_setRow hH.1 (by omega) _, row_set' (by omega) hH.2.1 _, row_set' (by omega) hH.2.2.1 _, row_set' (by omega) hH.2.2.2.1 _, row_set' (by omega) hH.2.2.2.2 _⟩
              refine hK.out _ _ hH2 (fun hH => ?_)
              clear hK K hH2
              (try simp only [Act.put, List.setIfInBounds_toArray, List.set_cons_succ, List.set_cons_zero])
              refine wpAnyH_take (i := 12) (v := (.int .i64 c)) rfl (by kernel_rfl) (by kernel_rfl) (by kernel_rfl) (fun _ _ _ h => by cases h.1) (.inl ⟨by rfl, fun w _ => by go_simp⟩) hH ?_
              (try simp only [Act.put, List.setIfInBounds_toArray, List.set_cons_succ, List.set_cons_zero])
              refine wpAnyH_done (by kernel_rfl) ?_ _
              exact ⟨rfl, b7, rfl, hH, V2⟩
          · rw [if_pos (by rfl)]
            go_simp
            have V := heap_at X22 (.cells Sh.zero.row 35) _ rfl
            have n0 := row_lt hH.2.1
            have n1 := row_lt hH.2.2.1
            have n2 := row_lt hH.2.2.2.1
            have n3 := row_lt hH.2.2.2.2
            replace hH : Below w.heap.size w (X22.alloc (.cells Sh.zero.row 35)) ∧ (X22.alloc (.cells Sh.zero.row 35)).heap[w.heap.size]? = some (.cells (vrow 266 s.at) 31) ∧ (X22.alloc (.cells Sh.zero.row 35)).heap[w.heap.size + 1]? = some (.cells (vrow 2 (spAt x y)) 64) ∧ (X22.alloc (.cells Sh.zero.row 35)).heap[w.heap.size + 2]? = some (.cells (vrow 2 (spAt u v)) 64) ∧ (X22.alloc (.cells Sh.zero.row 35)).heap[b5]? = some (.cells (vrow 266 r.at) 35) := ⟨hH.1.alloc hH.1.size _, heap_past _ _ _ _ (row_lt hH.2.1) hH.2.1, heap_past _ _ _ _ (row_lt hH.2.2.1) hH.2.2.1, heap_past _ _ _ _ (row_lt hH.2.2.2.1) hH.2.2.2.1, heap_past _ _ _ _ (row_lt hH.2.2.2.2) hH.2.2.2.2⟩
            refine hK.out _ _ hH (fun hH => ?_)
            clear hK K
            (try simp only [Act.put, List.setIfInBounds_toArray, List.set_cons_succ, List.set_cons_zero])
            generalize hb7 : X22.heap.size = b7 at V n0 n1 n2 n3 ⊢
            generalize X22.alloc _ = Y25 at hH V ⊢
            clear hb7
            refine wpAnyH_ready (rs := [5]) (by kernel_rfl) (by simp) (AllReadyH.cons rfl (fun K hK => ?_) AllReadyH.nil)
            rw [if_pos (by rfl)]
            go_simp
            go_at_call 45
            refine (HT2.out _).mono ?_
            rintro o X30 ⟨rfl, hb⟩
            replace hH : Below w.heap.size w X30 ∧ X30.heap[w.heap.size]? = some (.cells (vrow 266 s.at) 31) ∧ X30.heap[w.heap.size + 1]? = some (.cells (vrow 2 (spAt x y)) 64) ∧ X30.heap[w.heap.size + 2]? = some (.cells (vrow 2 (spAt u v)) 64) ∧ X30.heap[b5]? = some (.cells (vrow 266 r.at) 35) := ⟨hH.1.trans (hb.mono hH.1.size), row_next hb hH.2.1, row_next hb hH.2.2.1, row_next hb hH.2.2.2.1, row_next hb hH.2.2.2.2⟩
            replace V := row_next hb V
            clear hb
            refine hK.out _ _ hH (fun hH => ?_)
            clear hK K
            (try simp only [Act.put, List.setIfInBounds_toArray, List.set_cons_succ, List.set_cons_zero])
            refine wpAnyH_ready (rs := [6]) (by kernel_rfl) (by simp) (AllReadyH.cons rfl (fun K hK => ?_) AllReadyH.nil)
            rw [if_pos (by rfl)]
            go_simp
            go_at_call 46
            refine (HI.out _ (hE.next hH.1)).mono ?_
            rintro o X31 ⟨rfl, hb⟩
            replace hH : Below w.heap.size w X31 ∧ X31.heap[w.heap.size]? = some (.cells (vrow 266 s.at) 31) ∧ X31.heap[w.heap.size + 1]? = some (.cells (vrow 2 (spAt x y)) 64) ∧ X31.heap[w.heap.size + 2]? = some (.cells (vrow 2 (spAt u v)) 64) ∧ X31.heap[b5]? = some (.cells (vrow 266 r.at) 35) := ⟨hH.1.trans (hb.mono hH.1.size), row_next hb hH.2.1, row_next hb hH.2.2.1, row_next hb hH.2.2.2.1, row_next hb hH.2.2.2.2⟩
            replace V := row_next hb V
            clear hb
            refine hK.out _ _ hH (fun hH => ?_)
            clear hK K
            (try simp only [Act.put, List.setIfInBounds_toArray, List.set_cons_succ, List.set_cons_zero])
            refine wpAnyH_take (i := 7) (v := (.tuple #[.agg r.row, .int .i64 c])) rfl (by kernel_rfl) (by kernel_rfl) (by kernel_rfl) (fun _ _ _ h => by cases h.1) (.inl ⟨by rfl, fun w _ => by go_simp⟩) hH ?_
            (try simp only [Act.put, List.setIfInBounds_toArray, List.set_cons_succ, List.set_cons_zero])
            refine wpAnyH_take (i := 8) (v := (.agg r.row)) rfl (by kernel_rfl) (by kernel_rfl) (by kernel_rfl) (fun _ _ _ h => by cases h.1) (.inl ⟨by rfl, fun w _ => by go_simp⟩) hH ?_
            (try simp only [Act.put, List.setIfInBounds_toArray, List.set_cons_succ, List.set_cons_zero])
            refine wpAnyH_take (i := 9) (v := (.int .i64 c)) rfl (by kernel_rfl) (by kernel_rfl) (by kernel_rfl) (fun _ _ _ h => by cases h.1) (.inl ⟨by rfl, fun w _ => by go_simp⟩) hH ?_
            (try simp only [Act.put, List.setIfInBounds_toArray, List.set_cons_succ, List.set_cons_zero])
            refine wpAnyH_ready (rs := [11]) (by kernel_rfl) (by simp) (AllReadyH.cons rfl (fun K hK => ?_) AllReadyH.nil)
            rw [if_pos (by rfl)]
            unfold Oper.wp
            rw [run_storemid 35 (.tmp 9) (.tmp 29) rfl b7 0 rfl 266 266 Sh.zero.at r.at rfl 35 size_sheet V (by omega) (fun i _ => r.one i), vrow_over_all, Oper.upon_skip]
            have V2 := row_set V (vrow 266 r.at)
            have hH2 : Below w.heap.size w (X31.setRow b7 (vrow 266 r.at)) ∧ (X31.setRow b7 (vrow 266 r.at)).heap[w.heap.size]? = some (.cells (vrow 266 s.at) 31) ∧ (X31.setRow b7 (vrow 266 r.at)).heap[w.heap.size + 1]? = some (.cells (vrow 2 (spAt x y)) 64) ∧ (X31.setRow b7 (vrow 266 r.at)).heap[w.heap.size + 2]? = some (.cells (vrow 2 (spAt u v)) 64) ∧ (X31.setRow b7 (vrow 266 r.at)).heap[b5]? = some (.cells (vrow 266 r.at) 35) := ⟨Below_setRow hH.1 (by omega) _, row_set' (by omega) hH.2.1 _, row_set' (by omega) hH.2.2.1 _, row_set' (by omega) hH.2.2.2.1 _, row_set' (by omega) hH.2.2.2.2 _⟩
            refine hK.out _ _ hH2 (fun hH => ?_)
            clear hK K hH2
            (try simp only [Act.put, List.setIfInBounds_toArray, List.set_cons_succ, List.set_cons_zero])
            refine wpAnyH_take (i := 12) (v := (.int .i64 c)) rfl (by kernel_rfl) (by kernel_rfl) (by kernel_rfl) (fun _ _ _ h => by cases h.1) (.inl ⟨by rfl, fun w _ => by go_simp⟩) hH ?_
            (try simp only [Act.put, List.setIfInBounds_toArray, List.set_cons_succ, List.set_cons_zero])
            refine wpAnyH_done (by kernel_rfl) ?_ _
            exact ⟨rfl, b7, rfl, hH, V2⟩
        · rw [if_pos (by rfl)]
          go_simp
          have V := heap_at X20 (.cells Sh.zero.row 35) _ rfl
          have n0 := row_lt hH.2.1
          have n1 := row_lt hH.2.2.1
          have n2 := row_lt hH.2.2.2.1
          have n3 := row_lt hH.2.2.2.2
          replace hH : Below w.heap.size w (X20.alloc (.cells Sh.zero.row 35)) ∧ (X20.alloc (.cells Sh.zero.row 35)).heap[w.heap.size]? = some (.cells (vrow 266 s.at) 31) ∧ (X20.alloc (.cells Sh.zero.row 35)).heap[w.heap.size + 1]? = some (.cells (vrow 2 (spAt x y)) 64) ∧ (X20.alloc (.cells Sh.zero.row 35)).heap[w.heap.size + 2]? = some (.cells (vrow 2 (spAt u v)) 64) ∧ (X20.alloc (.cells Sh.zero.row 35)).heap[b5]? = some (.cells (vrow 266 r.at) 35) := ⟨hH.1.alloc hH.1.size _, heap_past _ _ _ _ (row_lt hH.2.1) hH.2.1, heap_past _ _ _ _ (row_lt hH.2.2.1) hH.2.2.1, heap_past _ _ _ _ (row_lt hH.2.2.2.1) hH.2.2.2.1, heap_past _ _ _ _ (row_lt hH.2.2.2.2) hH.2.2.2.2⟩
          refine hK.out _ _ hH (fun hH => ?_)
          clear hK K
          (try simp only [Act.put, List.setIfInBounds_toArray, List.set_cons_succ, List.set_cons_zero])
          generalize hb7 : X20.heap.size = b7 at V n0 n1 n2 n3 ⊢
          generalize X20.alloc _ = Y23 at hH V ⊢
          clear hb7
          refine wpAnyH_ready (rs := [3]) (by kernel_rfl) (by simp) (AllReadyH.cons rfl (fun K hK => ?_) AllReadyH.nil)
          rw [if_pos (by rfl)]
          go_simp
          go_at_call 45
          refine (HT1.out _).mono ?_
          rintro o X32 ⟨rfl, hb⟩
          replace hH : Below w.heap.size w X32 ∧ X32.heap[w.heap.size]? = some (.cells (vrow 266 s.at) 31) ∧ X32.heap[w.heap.size + 1]? = some (.cells (vrow 2 (spAt x y)) 64) ∧ X32.heap[w.heap.size + 2]? = some (.cells (vrow 2 (spAt u v)) 64) ∧ X32.heap[b5]? = some (.cells (vrow 266 r.at) 35) := ⟨hH.1.trans (hb.mono hH.1.size), row_next hb hH.2.1, row_next hb hH.2.2.1, row_next hb hH.2.2.2.1, row_next hb hH.2.2.2.2⟩
          replace V := row_next hb V
          clear hb
          refine hK.out _ _ hH (fun hH => ?_)
          clear hK K
          (try simp only [Act.put, List.setIfInBounds_toArray, List.set_cons_succ, List.set_cons_zero])
          refine wpAnyH_ready (rs := [5]) (by kernel_rfl) (by simp) (AllReadyH.cons rfl (fun K hK => ?_) AllReadyH.nil)
          rw [if_pos (by rfl)]
          go_simp
          go_at_call 45
          refine (HT2.out _).mono ?_
          rintro o X33 ⟨rfl, hb⟩
          replace hH : Below w.heap.size w X33 ∧ X33.heap[w.heap.size]? = some (.cells (vrow 266 s.at) 31) ∧ X33.heap[w.heap.size + 1]? = some (.cells (vrow 2 (spAt x y)) 64) ∧ X33.heap[w.heap.size + 2]? = some (.cells (vrow 2 (spAt u v)) 64) ∧ X33.heap[b5]? = some (.cells (vrow 266 r.at) 35) := ⟨hH.1.trans (hb.mono hH.1.size), row_next hb hH.2.1, row_next hb hH.2.2.1, row_next hb hH.2.2.2.1, row_next hb hH.2.2.2.2⟩
          replace V := row_next hb V
          clear hb
          refine hK.out _ _ hH (fun hH => ?_)
          clear hK K
          (try simp only [Act.put, List.setIfInBounds_toArray, List.set_cons_succ, List.set_cons_zero])
          refine wpAnyH_ready (rs := [6]) (by kernel_rfl) (by simp) (AllReadyH.cons rfl (fun K hK => ?_) AllReadyH.nil)
          rw [if_pos (by rfl)]
          go_simp
          go_at_call 46
          refine (HI.out _ (hE.next hH.1)).mono ?_
          rintro o X34 ⟨rfl, hb⟩
          replace hH : Below w.heap.size w X34 ∧ X34.heap[w.heap.size]? = some (.cells (vrow 266 s.at) 31) ∧ X34.heap[w.heap.size + 1]? = some (.cells (vrow 2 (spAt x y)) 64) ∧ X34.heap[w.heap.size + 2]? = some (.cells (vrow 2 (spAt u v)) 64) ∧ X34.heap[b5]? = some (.cells (vrow 266 r.at) 35) := ⟨hH.1.trans (hb.mono hH.1.size), row_next hb hH.2.1, row_next hb hH.2.2.1, row_next hb hH.2.2.2.1, row_next hb hH.2.2.2.2⟩
          replace V := row_next hb V
          clear hb
          refine hK.out _ _ hH (fun hH => ?_)
          clear hK K
          (try simp only [Act.put, List.setIfInBounds_toArray, List.set_cons_succ, List.set_cons_zero])
          refine wpAnyH_take (i := 7) (v := (.tuple #[.agg r.row, .int .i64 c])) rfl (by kernel_rfl) (by kernel_rfl) (by kernel_rfl) (fun _ _ _ h => by cases h.1) (.inl ⟨by rfl, fun w _ => by go_simp⟩) hH ?_
          (try simp only [Act.put, List.setIfInBounds_toArray, List.set_cons_succ, List.set_cons_zero])
          refine wpAnyH_take (i := 8) (v := (.agg r.row)) rfl (by kernel_rfl) (by kernel_rfl) (by kernel_rfl) (fun _ _ _ h => by cases h.1) (.inl ⟨by rfl, fun w _ => by go_simp⟩) hH ?_
          (try simp only [Act.put, List.setIfInBounds_toArray, List.set_cons_succ, List.set_cons_zero])
          refine wpAnyH_take (i := 9) (v := (.int .i64 c)) rfl (by kernel_rfl) (by kernel_rfl) (by kernel_rfl) (fun _ _ _ h => by cases h.1) (.inl ⟨by rfl, fun w _ => by go_simp⟩) hH ?_
          (try simp only [Act.put, List.setIfInBounds_toArray, List.set_cons_succ, List.set_cons_zero])
          refine wpAnyH_ready (rs := [11]) (by kernel_rfl) (by simp) (AllReadyH.cons rfl (fun K hK => ?_) AllReadyH.nil)
          rw [if_pos (by rfl)]
          unfold Oper.wp
          rw [run_storemid 35 (.tmp 9) (.tmp 29) rfl b7 0 rfl 266 266 Sh.zero.at r.at rfl 35 size_sheet V (by omega) (fun i _ => r.one i), vrow_over_all, Oper.upon_skip]
          have V2 := row_set V (vrow 266 r.at)
          have hH2 : Below w.heap.size w (X34.setRow b7 (vrow 266 r.at)) ∧ (X34.setRow b7 (vrow 266 r.at)).heap[w.heap.size]? = some (.cells (vrow 266 s.at) 31) ∧ (X34.setRow b7 (vrow 266 r.at)).heap[w.heap.size + 1]? = some (.cells (vrow 2 (spAt x y)) 64) ∧ (X34.setRow b7 (vrow 266 r.at)).heap[w.heap.size + 2]? = some (.cells (vrow 2 (spAt u v)) 64) ∧ (X34.setRow b7 (vrow 266 r.at)).heap[b5]? = some (.cells (vrow 266 r.at) 35) := ⟨Below_setRow hH.1 (by omega) _, row_set' (by omega) hH.2.1 _, row_set' (by omega) hH.2.2.1 _, row_set' (by omega) hH.2.2.2.1 _, row_set' (by omega) hH.2.2.2.2 _⟩
          refine hK.out _ _ hH2 (fun hH => ?_)
          clear hK K hH2
          (try simp only [Act.put, List.setIfInBounds_toArray, List.set_cons_succ, List.set_cons_zero])
          refine wpAnyH_take (i := 12) (v := (.int .i64 c)) rfl (by kernel_rfl) (by kernel_rfl) (by kernel_rfl) (fun _ _ _ h => by cases h.1) (.inl ⟨by rfl, fun w _ => by go_simp⟩) hH ?_
          (try simp only [Act.put, List.setIfInBounds_toArray, List.set_cons_succ, List.set_cons_zero])
          refine wpAnyH_done (by kernel_rfl) ?_ _
          exact ⟨rfl, b7, rfl, hH, V2⟩
      · rw [if_pos (by rfl)]
        go_simp
        have V := heap_at W (.cells Sh.zero.row 35) _ rfl
        have n0 := row_lt hH.2.1
        have n1 := row_lt hH.2.2.1
        have n2 := row_lt hH.2.2.2.1
        have n3 := row_lt hH.2.2.2.2
        replace hH : Below w.heap.size w (W.alloc (.cells Sh.zero.row 35)) ∧ (W.alloc (.cells Sh.zero.row 35)).heap[w.heap.size]? = some (.cells (vrow 266 s.at) 31) ∧ (W.alloc (.cells Sh.zero.row 35)).heap[w.heap.size + 1]? = some (.cells (vrow 2 (spAt x y)) 64) ∧ (W.alloc (.cells Sh.zero.row 35)).heap[w.heap.size + 2]? = some (.cells (vrow 2 (spAt u v)) 64) ∧ (W.alloc (.cells Sh.zero.row 35)).heap[b5]? = some (.cells (vrow 266 r.at) 35) := ⟨hH.1.alloc hH.1.size _, heap_past _ _ _ _ (row_lt hH.2.1) hH.2.1, heap_past _ _ _ _ (row_lt hH.2.2.1) hH.2.2.1, heap_past _ _ _ _ (row_lt hH.2.2.2.1) hH.2.2.2.1, heap_past _ _ _ _ (row_lt hH.2.2.2.2) hH.2.2.2.2⟩
        refine hK.out _ _ hH (fun hH => ?_)
        clear hK K
        (try simp only [Act.put, List.setIfInBounds_toArray, List.set_cons_succ, List.set_cons_zero])
        generalize hb7 : W.heap.size = b7 at V n0 n1 n2 n3 ⊢
        generalize W.alloc _ = Y21 at hH V ⊢
        clear hb7
        refine wpAnyH_ready (rs := [1]) (by kernel_rfl) (by simp) (AllReadyH.cons rfl (fun K hK => ?_) AllReadyH.nil)
        rw [if_pos (by rfl)]
        go_simp
        go_at_call 16
        refine (HT0.out _).mono ?_
        rintro o X35 ⟨rfl, hb⟩
        replace hH : Below w.heap.size w X35 ∧ X35.heap[w.heap.size]? = some (.cells (vrow 266 s.at) 31) ∧ X35.heap[w.heap.size + 1]? = some (.cells (vrow 2 (spAt x y)) 64) ∧ X35.heap[w.heap.size + 2]? = some (.cells (vrow 2 (spAt u v)) 64) ∧ X35.heap[b5]? = some (.cells (vrow 266 r.at) 35) := ⟨hH.1.trans (hb.mono hH.1.size), row_next hb hH.2.1, row_next hb hH.2.2.1, row_next hb hH.2.2.2.1, row_next hb hH.2.2.2.2⟩
        replace V := row_next hb V
        clear hb
        refine hK.out _ _ hH (fun hH => ?_)
        clear hK K
        (try simp only [Act.put, List.setIfInBounds_toArray, List.set_cons_succ, List.set_cons_zero])
        refine wpAnyH_ready (rs := [3]) (by kernel_rfl) (by simp) (AllReadyH.cons rfl (fun K hK => ?_) AllReadyH.nil)
        rw [if_pos (by rfl)]
        go_simp
        go_at_call 45
        refine (HT1.out _).mono ?_
        rintro o X36 ⟨rfl, hb⟩
        replace hH : Below w.heap.size w X36 ∧ X36.heap[w.heap.size]? = some (.cells (vrow 266 s.at) 31) ∧ X36.heap[w.heap.size + 1]? = some (.cells (vrow 2 (spAt x y)) 64) ∧ X36.heap[w.heap.size + 2]? = some (.cells (vrow 2 (spAt u v)) 64) ∧ X36.heap[b5]? = some (.cells (vrow 266 r.at) 35) := ⟨hH.1.trans (hb.mono hH.1.size), row_next hb hH.2.1, row_next hb hH.2.2.1, row_next hb hH.2.2.2.1, row_next hb hH.2.2.2.2⟩
        replace V := row_next hb V
        clear hb
        refine hK.out _ _ hH (fun hH => ?_)
        clear hK K
        (try simp only [Act.put, List.setIfInBounds_toArray, List.set_cons_succ, List.set_cons_zero])
        refine wpAnyH_ready (rs := [5]) (by kernel_rfl) (by simp) (AllReadyH.cons rfl (fun K hK => ?_) AllReadyH.nil)
        rw [if_pos (by rfl)]
        go_simp
        go_at_call 45
        refine (HT2.out _).mono ?_
        rintro o X37 ⟨rfl, hb⟩
        replace hH : Below w.heap.size w X37 ∧ X37.heap[w.heap.size]? = some (.cells (vrow 266 s.at) 31) ∧ X37.heap[w.heap.size + 1]? = some (.cells (vrow 2 (spAt x y)) 64) ∧ X37.heap[w.heap.size + 2]? = some (.cells (vrow 2 (spAt u v)) 64) ∧ X37.heap[b5]? = some (.cells (vrow 266 r.at) 35) := ⟨hH.1.trans (hb.mono hH.1.size), row_next hb hH.2.1, row_next hb hH.2.2.1, row_next hb hH.2.2.2.1, row_next hb hH.2.2.2.2⟩
        replace V := row_next hb V
        clear hb
        refine hK.out _ _ hH (fun hH => ?_)
        clear hK K
        (try simp only [Act.put, List.setIfInBounds_toArray, List.set_cons_succ, List.set_cons_zero])
        refine wpAnyH_ready (rs := [6]) (by kernel_rfl) (by simp) (AllReadyH.cons rfl (fun K hK => ?_) AllReadyH.nil)
        rw [if_pos (by rfl)]
        go_simp
        go_at_call 46
        refine (HI.out _ (hE.next hH.1)).mono ?_
        rintro o X38 ⟨rfl, hb⟩
        replace hH : Below w.heap.size w X38 ∧ X38.heap[w.heap.size]? = some (.cells (vrow 266 s.at) 31) ∧ X38.heap[w.heap.size + 1]? = some (.cells (vrow 2 (spAt x y)) 64) ∧ X38.heap[w.heap.size + 2]? = some (.cells (vrow 2 (spAt u v)) 64) ∧ X38.heap[b5]? = some (.cells (vrow 266 r.at) 35) := ⟨hH.1.trans (hb.mono hH.1.size), row_next hb hH.2.1, row_next hb hH.2.2.1, row_next hb hH.2.2.2.1, row_next hb hH.2.2.2.2⟩
        replace V := row_next hb V
        clear hb
        refine hK.out _ _ hH (fun hH => ?_)
        clear hK K
        (try simp only [Act.put, List.setIfInBounds_toArray, List.set_cons_succ, List.set_cons_zero])
        refine wpAnyH_take (i := 7) (v := (.tuple #[.agg r.row, .int .i64 c])) rfl (by kernel_rfl) (by kernel_rfl) (by kernel_rfl) (fun _ _ _ h => by cases h.1) (.inl ⟨by rfl, fun w _ => by go_simp⟩) hH ?_
        (try simp only [Act.put, List.setIfInBounds_toArray, List.set_cons_succ, List.set_cons_zero])
        refine wpAnyH_take (i := 8) (v := (.agg r.row)) rfl (by kernel_rfl) (by kernel_rfl) (by kernel_rfl) (fun _ _ _ h => by cases h.1) (.inl ⟨by rfl, fun w _ => by go_simp⟩) hH ?_
        (try simp only [Act.put, List.setIfInBounds_toArray, List.set_cons_succ, List.set_cons_zero])
        refine wpAnyH_take (i := 9) (v := (.int .i64 c)) rfl (by kernel_rfl) (by kernel_rfl) (by kernel_rfl) (fun _ _ _ h => by cases h.1) (.inl ⟨by rfl, fun w _ => by go_simp⟩) hH ?_
        (try simp only [Act.put, List.setIfInBounds_toArray, List.set_cons_succ, List.set_cons_zero])
        refine wpAnyH_ready (rs := [11]) (by kernel_rfl) (by simp) (AllReadyH.cons rfl (fun K hK => ?_) AllReadyH.nil)
        rw [if_pos (by rfl)]
        unfold Oper.wp
        rw [run_storemid 35 (.tmp 9) (.tmp 29) rfl b7 0 rfl 266 266 Sh.zero.at r.at rfl 35 size_sheet V (by omega) (fun i _ => r.one i), vrow_over_all, Oper.upon_skip]
        have V2 := row_set V (vrow 266 r.at)
        have hH2 : Below w.heap.size w (X38.setRow b7 (vrow 266 r.at)) ∧ (X38.setRow b7 (vrow 266 r.at)).heap[w.heap.size]? = some (.cells (vrow 266 s.at) 31) ∧ (X38.setRow b7 (vrow 266 r.at)).heap[w.heap.size + 1]? = some (.cells (vrow 2 (spAt x y)) 64) ∧ (X38.setRow b7 (vrow 266 r.at)).heap[w.heap.size + 2]? = some (.cells (vrow 2 (spAt u v)) 64) ∧ (X38.setRow b7 (vrow 266 r.at)).heap[b5]? = some (.cells (vrow 266 r.at) 35) := ⟨Below_setRow hH.1 (by omega) _, row_set' (by omega) hH.2.1 _, row_set' (by omega) hH.2.2.1 _, row_set' (by omega) hH.2.2.2.1 _, row_set' (by omega) hH.2.2.2.2 _⟩
        refine hK.out _ _ hH2 (fun hH => ?_)
        clear hK K hH2
        (try simp only [Act.put, List.setIfInBounds_toArray, List.set_cons_succ, List.set_cons_zero])
        refine wpAnyH_take (i := 12) (v := (.int .i64 c)) rfl (by kernel_rfl) (by kernel_rfl) (by kernel_rfl) (fun _ _ _ h => by cases h.1) (.inl ⟨by rfl, fun w _ => by go_simp⟩) hH ?_
        (try simp only [Act.put, List.setIfInBounds_toArray, List.set_cons_succ, List.set_cons_zero])
        refine wpAnyH_done (by kernel_rfl) ?_ _
        exact ⟨rfl, b7, rfl, hH, V2⟩
    · rintro e2 a2 W2 ⟨rfl, b7, rfl, ⟨hB, P0, P1, P2, V5⟩, V7⟩
      replace hB := Go.Lib.hid hB; replace P0 := Go.Lib.hid P0; replace P1 := Go.Lib.hid P1; replace P2 := Go.Lib.hid P2; replace V5 := Go.Lib.hid V5; replace V7 := Go.Lib.hid V7
      go_wp2_with (first
        | (refine wpList_loadall rfl 35 (.tmp 9) rfl _ rfl 266 r.at 35 _ Tryd.underlying35 rfl size_sheet V7.out ?_)
        | (refine wpList_loadall rfl 35 (.tmp 7) rfl _ rfl 266 r.at 35 _ Tryd.underlying35 rfl size_sheet V5.out ?_)
        | (go_at_call 26; refine (eqSheet_any r _).mono ?_; rintro o w3 ⟨rfl, hb⟩; replace hB := Go.Lib.hid (below_next hB.out hb); clear hb))
      go_ret
      exact ⟨rfl, hB.out⟩
theorem nbs_far {s : Sh} {x y u v : Nat} (hok : okI s = true) (h : hasL (nbs s x y 4) u v = true) : 8 * y + x ≠ 8 * v + u := by
  have key : ∀ k, hasL (nbs s x y k) u v = true → ∃ j, j < k ∧ freeB s (nextX x j) (nextY y j) = true ∧ (u : Int) = nextX x j ∧ (v : Int) = nextY y j := by
    intro k
    induction k with
    | zero => intro h; simp [nbs, hasL] at h
    | succ k ih =>
      intro h
      rw [show nbs s x y (k + 1) = nbs s x y k ++ (if freeB s (nextX x k) (nextY y k) then [mk8 (nextX x k).toNat (nextY y k).toNat] else []) from rfl, hasL_app] at h
      cases h1 : hasL (nbs s x y k) u v
      · rw [h1, Bool.false_or] at h
        cases hf : freeB s (nextX x k) (nextY y k)
        · rw [hf] at h; simp [hasL] at h
        · rw [hf, if_pos rfl, hasL_one] at h
          obtain ⟨m1, m2⟩ := mk_next hok hf
          simp only [Bool.and_eq_true, beq_iff_eq] at h
          exact ⟨k, by omega, hf, by rw [← m1]; exact h.1.symm, by rw [← m2]; exact h.2.symm⟩
      · obtain ⟨j, hj, r⟩ := ih h1
        exact ⟨j, by omega, r⟩
  obtain ⟨j, hj, _, hu, hv⟩ := key 4 h
  have : j = 0 ∨ j = 1 ∨ j = 2 ∨ j = 3 := by omega
  rcases this with rfl | rfl | rfl | rfl <;> simp only [nextX, nextY] at hu hv <;> omega
theorem Gu_law0 (s : Sh) (x y u v : Int) (e : ErrE) (w : World) (hE : Errs e w) (hf : s.fit) (hx : -128 ≤ x ∧ x ≤ 127) (hy : -128 ≤ y ∧ y ≤ 127) (hu : -128 ≤ u ∧ u ≤ 127) (hv : -128 ≤ v ∧ v ≤ 127) (hi : okI s = true → InkOk s) : Calls Tryd.prog 14 #[.agg s.row, .agg #[.int .i8 x, .int .i8 y], .agg #[.int .i8 u, .int .i8 v]] w fun o w' => o = .returned (.bool true) ∧ Below w.heap.size w w' := by
  cases ho : okI s
  · exact Gu_walk s x y u v Sh.zero 1 e w hE (fun w => specGU_bad s x y u v w hf hx hy hu hv ho) (fun w hE => implGU_err s x y u v 1 1 e w hE (fun w hE => gift_bad s x y u v ho e w hE) (fun w hE => codeOf_1 e w hE))
  · cases hh : hasB s x y
    · exact Gu_walk s x y u v Sh.zero 2 e w hE (fun w => specGU_no1 s x y u v w hf hx hy hu hv ho hh) (fun w hE => implGU_err s x y u v 2 2 e w hE (fun w hE => gift_no1 s x y u v ho hh e w hE) (fun w hE => codeOf_2 e w hE))
    · cases hh2 : hasB s u v
      · exact Gu_walk s x y u v Sh.zero 2 e w hE (fun w => specGU_no2 s x y u v w hf hx hy hu hv ho hh hh2) (fun w hE => implGU_err s x y u v 2 2 e w hE (fun w hE => gift_no2 s x y u v ho hh hh2 e w hE) (fun w hE => codeOf_2 e w hE))
      · have hi := hi ho
        obtain ⟨x, y, rfl, rfl, hx, hy⟩ := ok_has s ho x y hh
        obtain ⟨u, v, rfl, rfl, hu, hv⟩ := ok_has s ho u v hh2
        obtain ⟨⟨wa1, wa2⟩, _⟩ := ok_bounds s ho x y hx hy
        obtain ⟨⟨wb1, wb2⟩, _⟩ := ok_bounds s ho u v hu hv
        by_cases hw : s.wet (8 * y + x) = 0
        · cases hn : nearB s x y u v
          · exact Gu_walk s x y u v Sh.zero 4 e w hE (fun w => specGU_far s x y u v w hf hx hy hu hv ho hh hh2 hn) (fun w hE => implGU_err s x y u v 4 4 e w hE (fun w hE => gift_dry s x y u v hx hy hu hv ho hh hh2 hw e w hE) (fun w hE => codeOf_4 e w hE))
          · exact Gu_walk s x y u v Sh.zero 4 e w hE (fun w => specGU_dry s x y u v w hf hx hy hu hv ho hh hh2 hn hw) (fun w hE => implGU_err s x y u v 4 4 e w hE (fun w hE => gift_dry s x y u v hx hy hu hv ho hh hh2 hw e w hE) (fun w hE => codeOf_4 e w hE))
        · have hfr := wet_free ho hx hy hh hw
          cases hn : hasL (nbs s x y 4) u v
          · have hn2 : nearB s x y u v = false := by unfold nearB; rw [hn, Bool.and_false]
            exact Gu_walk s x y u v Sh.zero 4 e w hE (fun w => specGU_far s x y u v w hf hx hy hu hv ho hh hh2 hn2) (fun w hE => implGU_err s x y u v 4 4 e w hE (fun w hE => gift_far s x y u v hx hy hu hv ho hh hh2 hw hn e w hE) (fun w hE => codeOf_4 e w hE))
          · have hn2 : nearB s x y u v = true := by unfold nearB; rw [hn, hfr]; rfl
            have hne := nbs_far ho hn
            by_cases hw2 : s.wet (8 * v + u) = 200
            · exact Gu_walk s x y u v Sh.zero 3 e w hE (fun w => specGU_lim s x y u v w hf hx hy hu hv ho hh hh2 hn2 hw hw2) (fun w hE => implGU_err s x y u v 3 3 e w hE (fun w hE => gift_lim s x y u v hx hy hu hv ho hh hh2 hw hn hw2 e w hE) (fun w hE => codeOf_3 e w hE))
            · have hA : 1 ≤ s.wet (8 * y + x) ∧ s.wet (8 * y + x) ≤ 200 := by omega
              have hBw : 0 ≤ s.wet (8 * v + u) ∧ s.wet (8 * v + u) ≤ 199 := by omega
              exact Gu_walk s x y u v (giveS s x y u v) 0 e w hE (fun w => specGU_ok s x y u v w hf hx hy hu hv ho hh hh2 hn2 hne hi hA hBw) (fun w hE => implGU_ok s x y u v e w hE (fun w hE => gift_ok s x y u v hx hy hu hv ho hh hh2 hw hn hw2 e w hE) hx hy hu hv hne hi hA hBw)
theorem Gu_law (s : Sh) (x y u v : Int) (e : ErrE) (w : World) (hE : Errs e w) (hf : s.fit) (hx : -128 ≤ x ∧ x ≤ 127) (hy : -128 ≤ y ∧ y ≤ 127) (hu : -128 ≤ u ∧ u ≤ 127) (hv : -128 ≤ v ∧ v ≤ 127) : Calls Tryd.prog 14 #[.agg s.row, .agg #[.int .i8 x, .int .i8 y], .agg #[.int .i8 u, .int .i8 v]] w fun o w' => o = .returned (.bool true) ∧ Below w.heap.size w w' := by
  rw [← norm_row s]
  exact Gu_law0 s.norm x y u v e w hE (norm_fit hf) hx hy hu hv inkOk_norm
end Go.Proofs.YtgbhchmpeioaiaaDoor
