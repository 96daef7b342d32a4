import Derived.Deep.RegionHeld3
import Derived.Test.YtfdjlflnhhiecaaDoorEqSheet
import Derived.Test.YtfdjlflnhhiecaaDoorWax2
namespace Go.Proofs.YtfdjlflnhhiecaaDoor
open Go.RowKit
set_option maxRecDepth 100000
set_option linter.unusedVariables false
set_option linter.unusedSimpArgs false
set_option maxHeartbeats 4000000 in
theorem WaxC_walk (s r : Sh) (x y : Int) (on : Bool) (c : Int) (e : ErrE) (w : World) (hE : Errs e w)
    (hS : ∀ w, Calls Tryd.prog 26 #[.agg s.row, .agg #[.int .i8 x, .int .i8 y], .bool on] w fun e w' => e = .returned (.tuple #[.agg r.row, .int .i64 c]) ∧ Below w.heap.size w w')
    (hI : ∀ w, Errs e w → Calls Tryd.prog 27 #[.agg s.row, .agg #[.int .i8 x, .int .i8 y], .bool on] w fun e w' => e = .returned (.tuple #[.agg r.row, .int .i64 c]) ∧ Below w.heap.size w w') : Calls Tryd.prog 7 #[.agg s.row, .agg #[.int .i8 x, .int .i8 y], .bool on] w fun o w' => o = .returned (.bool true) ∧ Below w.heap.size w w' := by
  have zz := zero_sheet
  have HS := Go.Lib.hid hS; have HI := Go.Lib.hid hI; have HT := Go.Lib.hid fun w => toSheet_any s w; have HP := Go.Lib.hid fun w => toSpot_any x y w
  clear hS hI
  rw [sp_vrow]
  have hB : Hid (Below w.heap.size w ((w.alloc (.cells (vrow 266 s.at) 31)).alloc (.cells (vrow 2 (spAt x y)) 33))) := (((Below.refl w.heap.size w).alloc (by simp <;> omega) _).alloc (by simp <;> omega) _)
  have P : Hid (((w.alloc (.cells (vrow 266 s.at) 31)).alloc (.cells (vrow 2 (spAt x y)) 33)).heap[(w.heap.size)]? = some (.cells (vrow 266 s.at) 31)) := heap_past _ _ _ _ (by first | omega | (simp <;> omega)) (heap_at _ _ _ (by simp))
  have R : Hid (((w.alloc (.cells (vrow 266 s.at) 31)).alloc (.cells (vrow 2 (spAt x y)) 33)).heap[(w.heap.size + 1)]? = some (.cells (vrow 2 (spAt x y)) 33)) := heap_at _ _ _ (by simp)
  go_enter Tryd.func7, Tryd.ntmps7
  go_wp2
  refine Code.wp_mono (Q := fun e a' W' => e = .normal ∧ ∃ b5, a' = { tmps := #[.agg s.row, .agg (vrow 2 (spAt x y)), .bool on, .pointer (some ⟨w.heap.size, 0, none⟩), .pointer (some ⟨w.heap.size + 1, 0, none⟩), undef, .bool false, .pointer (some ⟨b5, 0, none⟩), .int .i64 c, undef, undef, .tuple #[.agg r.row, .int .i64 c], .agg s.row, .agg s.row, .agg (vrow 2 (spAt x y)), .agg (vrow 2 (spAt x y)), .bool on, .tuple #[.agg r.row, .int .i64 c], .agg r.row, .int .i64 c, undef, undef, undef, undef, undef, undef, undef, undef, undef, undef, undef, undef, undef, undef, undef, undef, undef, undef], defers := [] } ∧ (Below w.heap.size w W' ∧ W'.heap[w.heap.size]? = some (.cells (vrow 266 s.at) 31) ∧ W'.heap[w.heap.size + 1]? = some (.cells (vrow 2 (spAt x y)) 33)) ∧ W'.heap[b5]? = some (.cells (vrow 266 r.at) 36)) ?_ ?_
  rotate_left
  · refine wp_region_held_drew (S := fun W' => Below w.heap.size w W' ∧ W'.heap[w.heap.size]? = some (.cells (vrow 266 s.at) 31) ∧ W'.heap[w.heap.size + 1]? = some (.cells (vrow 2 (spAt x y)) 33)) (by kernel_rfl) ⟨hB.out.drew, P.out, R.out⟩ (fun hH => ?_)
    clear hB P R
    generalize World.drew _ = W at hH ⊢
    refine wpAnyH_take (i := 0) (v := (.agg (vrow 266 s.at))) rfl (by kernel_rfl) (by kernel_rfl) (by kernel_rfl) (fun _ _ _ h => by cases h.1) (yields_row (by rfl) 31 _ rfl (w.heap.size) rfl 266 s.at 31 _ Tryd.underlying31 rfl size_lsheet (fun _ h => h.2.1)) hH ?_
    (try simp only [Act.put, List.setIfInBounds_toArray, List.set_cons_succ, List.set_cons_zero])
    refine wpAnyH_take (i := 2) (v := (.agg (vrow 2 (spAt x y)))) rfl (by kernel_rfl) (by kernel_rfl) (by kernel_rfl) (fun _ _ _ h => by cases h.1) (yields_row (by rfl) 33 _ rfl (w.heap.size + 1) rfl 2 (spAt x y) 33 _ Tryd.underlying33 rfl size_lspot (fun _ h => h.2.2)) hH ?_
    (try simp only [Act.put, List.setIfInBounds_toArray, List.set_cons_succ, List.set_cons_zero])
    refine wpAnyH_take (i := 4) (v := (.bool on)) rfl (by kernel_rfl) (by kernel_rfl) (by kernel_rfl) (fun _ _ _ h => by cases h.1) (.inl ⟨by rfl, fun w _ => by go_simp⟩) hH ?_
    (try simp only [Act.put, List.setIfInBounds_toArray, List.set_cons_succ, List.set_cons_zero])
    refine wpAnyH_ready (rs := [1, 9]) (by kernel_rfl) (by simp) (AllReadyH.cons rfl (fun K hK => ?_) (AllReadyH.cons rfl (fun K hK => ?_) AllReadyH.nil))
    · rw [if_pos (by rfl)]
      go_simp
      go_at_call 16
      refine (HT.out _).mono ?_
      rintro o X1 ⟨rfl, hb⟩
      replace hH : Below w.heap.size w X1 ∧ X1.heap[w.heap.size]? = some (.cells (vrow 266 s.at) 31) ∧ X1.heap[w.heap.size + 1]? = some (.cells (vrow 2 (spAt x y)) 33) := ⟨hH.1.trans (hb.mono hH.1.size), row_next hb hH.2.1, row_next hb hH.2.2⟩
      clear hb
      refine hK.out _ _ hH (fun hH => ?_)
      clear hK K
      (try simp only [Act.put, List.setIfInBounds_toArray, List.set_cons_succ, List.set_cons_zero])
      refine wpAnyH_ready (rs := [3, 9]) (by kernel_rfl) (by simp) (AllReadyH.cons rfl (fun K hK => ?_) (AllReadyH.cons rfl (fun K hK => ?_) AllReadyH.nil))
      · rw [if_pos (by rfl)]
        go_simp
        go_at_call 17
        refine (HP.out _).mono ?_
        rintro o X3 ⟨rfl, hb⟩
        replace hH : Below w.heap.size w X3 ∧ X3.heap[w.heap.size]? = some (.cells (vrow 266 s.at) 31) ∧ X3.heap[w.heap.size + 1]? = some (.cells (vrow 2 (spAt x y)) 33) := ⟨hH.1.trans (hb.mono hH.1.size), row_next hb hH.2.1, row_next hb hH.2.2⟩
        clear hb
        refine hK.out _ _ hH (fun hH => ?_)
        clear hK K
        (try simp only [Act.put, List.setIfInBounds_toArray, List.set_cons_succ, List.set_cons_zero])
        refine wpAnyH_ready (rs := [5, 9]) (by kernel_rfl) (by simp) (AllReadyH.cons rfl (fun K hK => ?_) (AllReadyH.cons rfl (fun K hK => ?_) AllReadyH.nil))
        · rw [if_pos (by rfl)]
          go_simp
          go_at_call 26
          refine (HS.out _).mono ?_
          rintro o X5 ⟨rfl, hb⟩
          replace hH : Below w.heap.size w X5 ∧ X5.heap[w.heap.size]? = some (.cells (vrow 266 s.at) 31) ∧ X5.heap[w.heap.size + 1]? = some (.cells (vrow 2 (spAt x y)) 33) := ⟨hH.1.trans (hb.mono hH.1.size), row_next hb hH.2.1, row_next hb hH.2.2⟩
          clear hb
          refine hK.out _ _ hH (fun hH => ?_)
          clear hK K
          (try simp only [Act.put, List.setIfInBounds_toArray, List.set_cons_succ, List.set_cons_zero])
          refine wpAnyH_take (i := 6) (v := (.tuple #[.agg r.row, .int .i64 c])) rfl (by kernel_rfl) (by kernel_rfl) (by kernel_rfl) (fun _ _ _ h => by cases h.1) (.inl ⟨by rfl, fun w _ => by go_simp⟩) hH ?_
          (try simp only [Act.put, List.setIfInBounds_toArray, List.set_cons_succ, List.set_cons_zero])
          refine wpAnyH_take (i := 7) (v := (.agg r.row)) rfl (by kernel_rfl) (by kernel_rfl) (by kernel_rfl) (fun _ _ _ h => by cases h.1) (.inl ⟨by rfl, fun w _ => by go_simp⟩) hH ?_
          (try simp only [Act.put, List.setIfInBounds_toArray, List.set_cons_succ, List.set_cons_zero])
          refine wpAnyH_take (i := 8) (v := (.int .i64 c)) rfl (by kernel_rfl) (by kernel_rfl) (by kernel_rfl) (fun _ _ _ h => by cases h.1) (.inl ⟨by rfl, fun w _ => by go_simp⟩) hH ?_
          (try simp only [Act.put, List.setIfInBounds_toArray, List.set_cons_succ, List.set_cons_zero])
          refine wpAnyH_ready (rs := [9]) (by kernel_rfl) (by simp) (AllReadyH.cons rfl (fun K hK => ?_) AllReadyH.nil)
          rw [if_pos (by rfl)]
          go_simp
          have V := heap_at X5 (.cells Sh.zero.row 36) _ rfl
          have n0 := row_lt hH.2.1
          have n1 := row_lt hH.2.2
          replace hH : Below w.heap.size w (X5.alloc (.cells Sh.zero.row 36)) ∧ (X5.alloc (.cells Sh.zero.row 36)).heap[w.heap.size]? = some (.cells (vrow 266 s.at) 31) ∧ (X5.alloc (.cells Sh.zero.row 36)).heap[w.heap.size + 1]? = some (.cells (vrow 2 (spAt x y)) 33) := ⟨hH.1.alloc hH.1.size _, heap_past _ _ _ _ (row_lt hH.2.1) hH.2.1, heap_past _ _ _ _ (row_lt hH.2.2) hH.2.2⟩
          refine hK.out _ _ hH (fun hH => ?_)
          clear hK K
          (try simp only [Act.put, List.setIfInBounds_toArray, List.set_cons_succ, List.set_cons_zero])
          generalize hb7 : X5.heap.size = b5 at V n0 n1 ⊢
          generalize X5.alloc _ = Y7 at hH V ⊢
          clear hb7
          refine wpAnyH_ready (rs := [10]) (by kernel_rfl) (by simp) (AllReadyH.cons rfl (fun K hK => ?_) AllReadyH.nil)
          rw [if_pos (by rfl)]
          unfold Oper.wp
          rw [run_storemid 36 (.tmp 7) (.tmp 18) rfl b5 0 rfl 266 266 Sh.zero.at r.at rfl 36 size_sheet V (by omega) (fun i _ => r.one i), vrow_over_all, Oper.upon_skip]
          have V2 := row_set V (vrow 266 r.at)
          have hH2 : Below w.heap.size w (Y7.setRow b5 (vrow 266 r.at)) ∧ (Y7.setRow b5 (vrow 266 r.at)).heap[w.heap.size]? = some (.cells (vrow 266 s.at) 31) ∧ (Y7.setRow b5 (vrow 266 r.at)).heap[w.heap.size + 1]? = some (.cells (vrow 2 (spAt x y)) 33) := ⟨Below_setRow hH.1 (by omega) _, row_set' (by omega) hH.2.1 _, row_set' (by omega) hH.2.2 _⟩
          refine hK.out _ _ hH2 (fun hH => ?_)
          clear hK K hH2
          (try simp only [Act.put, List.setIfInBounds_toArray, List.set_cons_succ, List.set_cons_zero])
          refine wpAnyH_take (i := 11) (v := (.int .i64 c)) rfl (by kernel_rfl) (by kernel_rfl) (by kernel_rfl) (fun _ _ _ h => by cases h.1) (.inl ⟨by rfl, fun w _ => by go_simp⟩) hH ?_
          (try simp only [Act.put, List.setIfInBounds_toArray, List.set_cons_succ, List.set_cons_zero])
          refine wpAnyH_done (by kernel_rfl) ?_ _
          exact ⟨rfl, b5, rfl, hH, V2⟩
        · rw [if_pos (by rfl)]
          go_simp
          have V := heap_at X3 (.cells Sh.zero.row 36) _ rfl
          have n0 := row_lt hH.2.1
          have n1 := row_lt hH.2.2
          replace hH : Below w.heap.size w (X3.alloc (.cells Sh.zero.row 36)) ∧ (X3.alloc (.cells Sh.zero.row 36)).heap[w.heap.size]? = some (.cells (vrow 266 s.at) 31) ∧ (X3.alloc (.cells Sh.zero.row 36)).heap[w.heap.size + 1]? = some (.cells (vrow 2 (spAt x y)) 33) := ⟨hH.1.alloc hH.1.size _, heap_past _ _ _ _ (row_lt hH.2.1) hH.2.1, heap_past _ _ _ _ (row_lt hH.2.2) hH.2.2⟩
          refine hK.out _ _ hH (fun hH => ?_)
          clear hK K
          (try simp only [Act.put, List.setIfInBounds_toArray, List.set_cons_succ, List.set_cons_zero])
          generalize hb7 : X3.heap.size = b5 at V n0 n1 ⊢
          generalize X3.alloc _ = Y6 at hH V ⊢
          clear hb7
          refine wpAnyH_ready (rs := [5]) (by kernel_rfl) (by simp) (AllReadyH.cons rfl (fun K hK => ?_) AllReadyH.nil)
          rw [if_pos (by rfl)]
          go_simp
          go_at_call 26
          refine (HS.out _).mono ?_
          rintro o X8 ⟨rfl, hb⟩
          replace hH : Below w.heap.size w X8 ∧ X8.heap[w.heap.size]? = some (.cells (vrow 266 s.at) 31) ∧ X8.heap[w.heap.size + 1]? = some (.cells (vrow 2 (spAt x y)) 33) := ⟨hH.1.trans (hb.mono hH.1.size), row_next hb hH.2.1, row_next hb hH.2.2⟩
          replace V := row_next hb V
          clear hb
          refine hK.out _ _ hH (fun hH => ?_)
          clear hK K
          (try simp only [Act.put, List.setIfInBounds_toArray, List.set_cons_succ, List.set_cons_zero])
          refine wpAnyH_take (i := 6) (v := (.tuple #[.agg r.row, .int .i64 c])) rfl (by kernel_rfl) (by kernel_rfl) (by kernel_rfl) (fun _ _ _ h => by cases h.1) (.inl ⟨by rfl, fun w _ => by go_simp⟩) hH ?_
          (try simp only [Act.put, List.setIfInBounds_toArray, List.set_cons_succ, List.set_cons_zero])
          refine wpAnyH_take (i := 7) (v := (.agg r.row)) rfl (by kernel_rfl) (by kernel_rfl) (by kernel_rfl) (fun _ _ _ h => by cases h.1) (.inl ⟨by rfl, fun w _ => by go_simp⟩) hH ?_
          (try simp only [Act.put, List.setIfInBounds_toArray, List.set_cons_succ, List.set_cons_zero])
          refine wpAnyH_take (i := 8) (v := (.int .i64 c)) rfl (by kernel_rfl) (by kernel_rfl) (by kernel_rfl) (fun _ _ _ h => by cases h.1) (.inl ⟨by rfl, fun w _ => by go_simp⟩) hH ?_
          (try simp only [Act.put, List.setIfInBounds_toArray, List.set_cons_succ, List.set_cons_zero])
          refine wpAnyH_ready (rs := [10]) (by kernel_rfl) (by simp) (AllReadyH.cons rfl (fun K hK => ?_) AllReadyH.nil)
          rw [if_pos (by rfl)]
          unfold Oper.wp
          rw [run_storemid 36 (.tmp 7) (.tmp 18) rfl b5 0 rfl 266 266 Sh.zero.at r.at rfl 36 size_sheet V (by omega) (fun i _ => r.one i), vrow_over_all, Oper.upon_skip]
          have V2 := row_set V (vrow 266 r.at)
          have hH2 : Below w.heap.size w (X8.setRow b5 (vrow 266 r.at)) ∧ (X8.setRow b5 (vrow 266 r.at)).heap[w.heap.size]? = some (.cells (vrow 266 s.at) 31) ∧ (X8.setRow b5 (vrow 266 r.at)).heap[w.heap.size + 1]? = some (.cells (vrow 2 (spAt x y)) 33) := ⟨Below_setRow hH.1 (by omega) _, row_set' (by omega) hH.2.1 _, row_set' (by omega) hH.2.2 _⟩
          refine hK.out _ _ hH2 (fun hH => ?_)
          clear hK K hH2
          (try simp only [Act.put, List.setIfInBounds_toArray, List.set_cons_succ, List.set_cons_zero])
          refine wpAnyH_take (i := 11) (v := (.int .i64 c)) rfl (by kernel_rfl) (by kernel_rfl) (by kernel_rfl) (fun _ _ _ h => by cases h.1) (.inl ⟨by rfl, fun w _ => by go_simp⟩) hH ?_
          (try simp only [Act.put, List.setIfInBounds_toArray, List.set_cons_succ, List.set_cons_zero])
          refine wpAnyH_done (by kernel_rfl) ?_ _
          exact ⟨rfl, b5, rfl, hH, V2⟩
      · rw [if_pos (by rfl)]
        go_simp
        have V := heap_at X1 (.cells Sh.zero.row 36) _ rfl
        have n0 := row_lt hH.2.1
        have n1 := row_lt hH.2.2
        replace hH : Below w.heap.size w (X1.alloc (.cells Sh.zero.row 36)) ∧ (X1.alloc (.cells Sh.zero.row 36)).heap[w.heap.size]? = some (.cells (vrow 266 s.at) 31) ∧ (X1.alloc (.cells Sh.zero.row 36)).heap[w.heap.size + 1]? = some (.cells (vrow 2 (spAt x y)) 33) := ⟨hH.1.alloc hH.1.size _, heap_past _ _ _ _ (row_lt hH.2.1) hH.2.1, heap_past _ _ _ _ (row_lt hH.2.2) hH.2.2⟩
        refine hK.out _ _ hH (fun hH => ?_)
        clear hK K
        (try simp only [Act.put, List.setIfInBounds_toArray, List.set_cons_succ, List.set_cons_zero])
        generalize hb7 : X1.heap.size = b5 at V n0 n1 ⊢
        generalize X1.alloc _ = Y4 at hH V ⊢
        clear hb7
        refine wpAnyH_ready (rs := [3]) (by kernel_rfl) (by simp) (AllReadyH.cons rfl (fun K hK => ?_) AllReadyH.nil)
        rw [if_pos (by rfl)]
        go_simp
        go_at_call 17
        refine (HP.out _).mono ?_
        rintro o X9 ⟨rfl, hb⟩
        replace hH : Below w.heap.size w X9 ∧ X9.heap[w.heap.size]? = some (.cells (vrow 266 s.at) 31) ∧ X9.heap[w.heap.size + 1]? = some (.cells (vrow 2 (spAt x y)) 33) := ⟨hH.1.trans (hb.mono hH.1.size), row_next hb hH.2.1, row_next hb hH.2.2⟩
        replace V := row_next hb V
        clear hb
        refine hK.out _ _ hH (fun hH => ?_)
        clear hK K
        (try simp only [Act.put, List.setIfInBounds_toArray, List.set_cons_succ, List.set_cons_zero])
        refine wpAnyH_ready (rs := [5]) (by kernel_rfl) (by simp) (AllReadyH.cons rfl (fun K hK => ?_) AllReadyH.nil)
        rw [if_pos (by rfl)]
        go_simp
        go_at_call 26
        refine (HS.out _).mono ?_
        rintro o X10 ⟨rfl, hb⟩
        replace hH : Below w.heap.size w X10 ∧ X10.heap[w.heap.size]? = some (.cells (vrow 266 s.at) 31) ∧ X10.heap[w.heap.size + 1]? = some (.cells (vrow 2 (spAt x y)) 33) := ⟨hH.1.trans (hb.mono hH.1.size), row_next hb hH.2.1, row_next hb hH.2.2⟩
        replace V := row_next hb V
        clear hb
        refine hK.out _ _ hH (fun hH => ?_)
        clear hK K
        (try simp only [Act.put, List.setIfInBounds_toArray, List.set_cons_succ, List.set_cons_zero])
        refine wpAnyH_take (i := 6) (v := (.tuple #[.agg r.row, .int .i64 c])) rfl (by kernel_rfl) (by kernel_rfl) (by kernel_rfl) (fun _ _ _ h => by cases h.1) (.inl ⟨by rfl, fun w _ => by go_simp⟩) hH ?_
        (try simp only [Act.put, List.setIfInBounds_toArray, List.set_cons_succ, List.set_cons_zero])
        refine wpAnyH_take (i := 7) (v := (.agg r.row)) rfl (by kernel_rfl) (by kernel_rfl) (by kernel_rfl) (fun _ _ _ h => by cases h.1) (.inl ⟨by rfl, fun w _ => by go_simp⟩) hH ?_
        (try simp only [Act.put, List.setIfInBounds_toArray, List.set_cons_succ, List.set_cons_zero])
        refine wpAnyH_take (i := 8) (v := (.int .i64 c)) rfl (by kernel_rfl) (by kernel_rfl) (by kernel_rfl) (fun _ _ _ h => by cases h.1) (.inl ⟨by rfl, fun w _ => by go_simp⟩) hH ?_
        (try simp only [Act.put, List.setIfInBounds_toArray, List.set_cons_succ, List.set_cons_zero])
        refine wpAnyH_ready (rs := [10]) (by kernel_rfl) (by simp) (AllReadyH.cons rfl (fun K hK => ?_) AllReadyH.nil)
        rw [if_pos (by rfl)]
        unfold Oper.wp
        rw [run_storemid 36 (.tmp 7) (.tmp 18) rfl b5 0 rfl 266 266 Sh.zero.at r.at rfl 36 size_sheet V (by omega) (fun i _ => r.one i), vrow_over_all, Oper.upon_skip]
        have V2 := row_set V (vrow 266 r.at)
        have hH2 : Below w.heap.size w (X10.setRow b5 (vrow 266 r.at)) ∧ (X10.setRow b5 (vrow 266 r.at)).heap[w.heap.size]? = some (.cells (vrow 266 s.at) 31) ∧ (X10.setRow b5 (vrow 266 r.at)).heap[w.heap.size + 1]? = some (.cells (vrow 2 (spAt x y)) 33) := ⟨Below_setRow hH.1 (by omega) _, row_set' (by omega) hH.2.1 _, row_set' (by omega) hH.2.2 _⟩
        refine hK.out _ _ hH2 (fun hH => ?_)
        clear hK K hH2
        (try simp only [Act.put, List.setIfInBounds_toArray, List.set_cons_succ, List.set_cons_zero])
        refine wpAnyH_take (i := 11) (v := (.int .i64 c)) rfl (by kernel_rfl) (by kernel_rfl) (by kernel_rfl) (fun _ _ _ h => by cases h.1) (.inl ⟨by rfl, fun w _ => by go_simp⟩) hH ?_
        (try simp only [Act.put, List.setIfInBounds_toArray, List.set_cons_succ, List.set_cons_zero])
        refine wpAnyH_done (by kernel_rfl) ?_ _
        exact ⟨rfl, b5, rfl, hH, V2⟩
    · rw [if_pos (by rfl)]
      go_simp
      have V := heap_at W (.cells Sh.zero.row 36) _ rfl
      have n0 := row_lt hH.2.1
      have n1 := row_lt hH.2.2
      replace hH : Below w.heap.size w (W.alloc (.cells Sh.zero.row 36)) ∧ (W.alloc (.cells Sh.zero.row 36)).heap[w.heap.size]? = some (.cells (vrow 266 s.at) 31) ∧ (W.alloc (.cells Sh.zero.row 36)).heap[w.heap.size + 1]? = some (.cells (vrow 2 (spAt x y)) 33) := ⟨hH.1.alloc hH.1.size _, heap_past _ _ _ _ (row_lt hH.2.1) hH.2.1, heap_past _ _ _ _ (row_lt hH.2.2) hH.2.2⟩
      refine hK.out _ _ hH (fun hH => ?_)
      clear hK K
      (try simp only [Act.put, List.setIfInBounds_toArray, List.set_cons_succ, List.set_cons_zero])
      generalize hb7 : W.heap.size = b5 at V n0 n1 ⊢
      generalize W.alloc _ = Y2 at hH V ⊢
      clear hb7
      refine wpAnyH_ready (rs := [1]) (by kernel_rfl) (by simp) (AllReadyH.cons rfl (fun K hK => ?_) AllReadyH.nil)
      rw [if_pos (by rfl)]
      go_simp
      go_at_call 16
      refine (HT.out _).mono ?_
      rintro o X11 ⟨rfl, hb⟩
      replace hH : Below w.heap.size w X11 ∧ X11.heap[w.heap.size]? = some (.cells (vrow 266 s.at) 31) ∧ X11.heap[w.heap.size + 1]? = some (.cells (vrow 2 (spAt x y)) 33) := ⟨hH.1.trans (hb.mono hH.1.size), row_next hb hH.2.1, row_next hb hH.2.2⟩
      replace V := row_next hb V
      clear hb
      refine hK.out _ _ hH (fun hH => ?_)
      clear hK K
      (try simp only [Act.put, List.setIfInBounds_toArray, List.set_cons_succ, List.set_cons_zero])
      refine wpAnyH_ready (rs := [3]) (by kernel_rfl) (by simp) (AllReadyH.cons rfl (fun K hK => ?_) AllReadyH.nil)
      rw [if_pos (by rfl)]
      go_simp
      go_at_call 17
      refine (HP.out _).mono ?_
      rintro o X12 ⟨rfl, hb⟩
      replace hH : Below w.heap.size w X12 ∧ X12.heap[w.heap.size]? = some (.cells (vrow 266 s.at) 31) ∧ X12.heap[w.heap.size + 1]? = some (.cells (vrow 2 (spAt x y)) 33) := ⟨hH.1.trans (hb.mono hH.1.size), row_next hb hH.2.1, row_next hb hH.2.2⟩
      replace V := row_next hb V
      clear hb
      refine hK.out _ _ hH (fun hH => ?_)
      clear hK K
      (try simp only [Act.put, List.setIfInBounds_toArray, List.set_cons_succ, List.set_cons_zero])
      refine wpAnyH_ready (rs := [5]) (by kernel_rfl) (by simp) (AllReadyH.cons rfl (fun K hK => ?_) AllReadyH.nil)
      rw [if_pos (by rfl)]
      go_simp
      go_at_call 26
      refine (HS.out _).mono ?_
      rintro o X13 ⟨rfl, hb⟩
      replace hH : Below w.heap.size w X13 ∧ X13.heap[w.heap.size]? = some (.cells (vrow 266 s.at) 31) ∧ X13.heap[w.heap.size + 1]? = some (.cells (vrow 2 (spAt x y)) 33) := ⟨hH.1.trans (hb.mono hH.1.size), row_next hb hH.2.1, row_next hb hH.2.2⟩
      replace V := row_next hb V
      clear hb
      refine hK.out _ _ hH (fun hH => ?_)
      clear hK K
      (try simp only [Act.put, List.setIfInBounds_toArray, List.set_cons_succ, List.set_cons_zero])
      refine wpAnyH_take (i := 6) (v := (.tuple #[.agg r.row, .int .i64 c])) rfl (by kernel_rfl) (by kernel_rfl) (by kernel_rfl) (fun _ _ _ h => by cases h.1) (.inl ⟨by rfl, fun w _ => by go_simp⟩) hH ?_
      (try simp only [Act.put, List.setIfInBounds_toArray, List.set_cons_succ, List.set_cons_zero])
      refine wpAnyH_take (i := 7) (v := (.agg r.row)) rfl (by kernel_rfl) (by kernel_rfl) (by kernel_rfl) (fun _ _ _ h => by cases h.1) (.inl ⟨by rfl, fun w _ => by go_simp⟩) hH ?_
      (try simp only [Act.put, List.setIfInBounds_toArray, List.set_cons_succ, List.set_cons_zero])
      refine wpAnyH_take (i := 8) (v := (.int .i64 c)) rfl (by kernel_rfl) (by kernel_rfl) (by kernel_rfl) (fun _ _ _ h => by cases h.1) (.inl ⟨by rfl, fun w _ => by go_simp⟩) hH ?_
      (try simp only [Act.put, List.setIfInBounds_toArray, List.set_cons_succ, List.set_cons_zero])
      refine wpAnyH_ready (rs := [10]) (by kernel_rfl) (by simp) (AllReadyH.cons rfl (fun K hK => ?_) AllReadyH.nil)
      rw [if_pos (by rfl)]
      unfold Oper.wp
      rw [run_storemid 36 (.tmp 7) (.tmp 18) rfl b5 0 rfl 266 266 Sh.zero.at r.at rfl 36 size_sheet V (by omega) (fun i _ => r.one i), vrow_over_all, Oper.upon_skip]
      have V2 := row_set V (vrow 266 r.at)
      have hH2 : Below w.heap.size w (X13.setRow b5 (vrow 266 r.at)) ∧ (X13.setRow b5 (vrow 266 r.at)).heap[w.heap.size]? = some (.cells (vrow 266 s.at) 31) ∧ (X13.setRow b5 (vrow 266 r.at)).heap[w.heap.size + 1]? = some (.cells (vrow 2 (spAt x y)) 33) := ⟨Below_setRow hH.1 (by omega) _, row_set' (by omega) hH.2.1 _, row_set' (by omega) hH.2.2 _⟩
      refine hK.out _ _ hH2 (fun hH => ?_)
      clear hK K hH2
      (try simp only [Act.put, List.setIfInBounds_toArray, List.set_cons_succ, List.set_cons_zero])
      refine wpAnyH_take (i := 11) (v := (.int .i64 c)) rfl (by kernel_rfl) (by kernel_rfl) (by kernel_rfl) (fun _ _ _ h => by cases h.1) (.inl ⟨by rfl, fun w _ => by go_simp⟩) hH ?_
      (try simp only [Act.put, List.setIfInBounds_toArray, List.set_cons_succ, List.set_cons_zero])
      refine wpAnyH_done (by kernel_rfl) ?_ _
      exact ⟨rfl, b5, rfl, hH, V2⟩
  · rintro e1 a1 W1 ⟨rfl, b5, rfl, ⟨hB, P, R⟩, V5⟩
    replace hB := Go.Lib.hid hB; replace P := Go.Lib.hid P; replace R := Go.Lib.hid R; replace V5 := Go.Lib.hid V5
    go_wp2
    refine Code.wp_mono (Q := fun e a' W' => e = .normal ∧ ∃ b7, a' = { tmps := #[.agg s.row, .agg (vrow 2 (spAt x y)), .bool on, .pointer (some ⟨w.heap.size, 0, none⟩), .pointer (some ⟨w.heap.size + 1, 0, none⟩), undef, .bool false, .pointer (some ⟨b5, 0, none⟩), .int .i64 c, .pointer (some ⟨b7, 0, none⟩), .int .i64 c, .tuple #[.agg r.row, .int .i64 c], .agg s.row, .agg s.row, .agg (vrow 2 (spAt x y)), .agg (vrow 2 (spAt x y)), .bool on, .tuple #[.agg r.row, .int .i64 c], .agg r.row, .int .i64 c, .tuple #[.agg r.row, .int .i64 c], .agg s.row, .agg s.row, .agg (vrow 2 (spAt x y)), .agg (vrow 2 (spAt x y)), .bool on, .tuple #[.agg r.row, .int .i64 c], .agg r.row, .int .i64 c, undef, undef, undef, undef, undef, undef, undef, undef, undef], defers := [] } ∧ (Below w.heap.size w W' ∧ W'.heap[w.heap.size]? = some (.cells (vrow 266 s.at) 31) ∧ W'.heap[w.heap.size + 1]? = some (.cells (vrow 2 (spAt x y)) 33) ∧ W'.heap[b5]? = some (.cells (vrow 266 r.at) 36)) ∧ W'.heap[b7]? = some (.cells (vrow 266 r.at) 36)) ?_ ?_
    rotate_left
    · refine wp_region_held_drew (S := fun W' => Below w.heap.size w W' ∧ W'.heap[w.heap.size]? = some (.cells (vrow 266 s.at) 31) ∧ W'.heap[w.heap.size + 1]? = some (.cells (vrow 2 (spAt x y)) 33) ∧ W'.heap[b5]? = some (.cells (vrow 266 r.at) 36)) (by kernel_rfl) ⟨hB.out.drew, P.out, R.out, V5.out⟩ (fun hH => ?_)
      clear hB P R V5
      generalize World.drew _ = W at hH ⊢
      refine wpAnyH_take (i := 0) (v := (.agg (vrow 266 s.at))) rfl (by kernel_rfl) (by kernel_rfl) (by kernel_rfl) (fun _ _ _ h => by cases h.1) (yields_row (by rfl) 31 _ rfl (w.heap.size) rfl 266 s.at 31 _ Tryd.underlying31 rfl size_lsheet (fun _ h => h.2.1)) hH ?_
      (try simp only [Act.put, List.setIfInBounds_toArray, List.set_cons_succ, List.set_cons_zero])
      refine wpAnyH_take (i := 2) (v := (.agg (vrow 2 (spAt x y)))) rfl (by kernel_rfl) (by kernel_rfl) (by kernel_rfl) (fun _ _ _ h => by cases h.1) (yields_row (by rfl) 33 _ rfl (w.heap.size + 1) rfl 2 (spAt x y) 33 _ Tryd.underlying33 rfl size_lspot (fun _ h => h.2.2.1)) hH ?_
      (try simp only [Act.put, List.setIfInBounds_toArray, List.set_cons_succ, List.set_cons_zero])
      refine wpAnyH_take (i := 4) (v := (.bool on)) rfl (by kernel_rfl) (by kernel_rfl) (by kernel_rfl) (fun _ _ _ h => by cases h.1) (.inl ⟨by rfl, fun w _ => by go_simp⟩) hH ?_
      (try simp only [Act.put, List.setIfInBounds_toArray, List.set_cons_succ, List.set_cons_zero])
      refine wpAnyH_ready (rs := [1, 9]) (by kernel_rfl) (by simp) (AllReadyH.cons rfl (fun K hK => ?_) (AllReadyH.cons rfl (fun K hK => ?_) AllReadyH.nil))
      · rw [if_pos (by rfl)]
        go_simp
        go_at_call 16
        refine (HT.out _).mono ?_
        rintro o X14 ⟨rfl, hb⟩
        replace hH : Below w.heap.size w X14 ∧ X14.heap[w.heap.size]? = some (.cells (vrow 266 s.at) 31) ∧ X14.heap[w.heap.size + 1]? = some (.cells (vrow 2 (spAt x y)) 33) ∧ X14.heap[b5]? = some (.cells (vrow 266 r.at) 36) := ⟨hH.1.trans (hb.mono hH.1.size), row_next hb hH.2.1, row_next hb hH.2.2.1, row_next hb hH.2.2.2⟩
        clear hb
        refine hK.out _ _ hH (fun hH => ?_)
        clear hK K
        (try simp only [Act.put, List.setIfInBounds_toArray, List.set_cons_succ, List.set_cons_zero])
        refine wpAnyH_ready (rs := [3, 9]) (by kernel_rfl) (by simp) (AllReadyH.cons rfl (fun K hK => ?_) (AllReadyH.cons rfl (fun K hK => ?_) AllReadyH.nil))
        · rw [if_pos (by rfl)]
          go_simp
          go_at_call 17
          refine (HP.out _).mono ?_
          rintro o X16 ⟨rfl, hb⟩
          replace hH : Below w.heap.size w X16 ∧ X16.heap[w.heap.size]? = some (.cells (vrow 266 s.at) 31) ∧ X16.heap[w.heap.size + 1]? = some (.cells (vrow 2 (spAt x y)) 33) ∧ X16.heap[b5]? = some (.cells (vrow 266 r.at) 36) := ⟨hH.1.trans (hb.mono hH.1.size), row_next hb hH.2.1, row_next hb hH.2.2.1, row_next hb hH.2.2.2⟩
          clear hb
          refine hK.out _ _ hH (fun hH => ?_)
          clear hK K
          (try simp only [Act.put, List.setIfInBounds_toArray, List.set_cons_succ, List.set_cons_zero])
          refine wpAnyH_ready (rs := [5, 9]) (by kernel_rfl) (by simp) (AllReadyH.cons rfl (fun K hK => ?_) (AllReadyH.cons rfl (fun K hK => ?_) AllReadyH.nil))
          · rw [if_pos (by rfl)]
            go_simp
            go_at_call 27
            refine (HI.out _ (hE.next hH.1)).mono ?_
            rintro o X18 ⟨rfl, hb⟩
            replace hH : Below w.heap.size w X18 ∧ X18.heap[w.heap.size]? = some (.cells (vrow 266 s.at) 31) ∧ X18.heap[w.heap.size + 1]? = some (.cells (vrow 2 (spAt x y)) 33) ∧ X18.heap[b5]? = some (.cells (vrow 266 r.at) 36) := ⟨hH.1.trans (hb.mono hH.1.size), row_next hb hH.2.1, row_next hb hH.2.2.1, row_next hb hH.2.2.2⟩
            clear hb
            refine hK.out _ _ hH (fun hH => ?_)
            clear hK K
            (try simp only [Act.put, List.setIfInBounds_toArray, List.set_cons_succ, List.set_cons_zero])
            refine wpAnyH_take (i := 6) (v := (.tuple #[.agg r.row, .int .i64 c])) rfl (by kernel_rfl) (by kernel_rfl) (by kernel_rfl) (fun _ _ _ h => by cases h.1) (.inl ⟨by rfl, fun w _ => by go_simp⟩) hH ?_
            (try simp only [Act.put, List.setIfInBounds_toArray, List.set_cons_succ, List.set_cons_zero])
            refine wpAnyH_take (i := 7) (v := (.agg r.row)) rfl (by kernel_rfl) (by kernel_rfl) (by kernel_rfl) (fun _ _ _ h => by cases h.1) (.inl ⟨by rfl, fun w _ => by go_simp⟩) hH ?_
            (try simp only [Act.put, List.setIfInBounds_toArray, List.set_cons_succ, List.set_cons_zero])
            refine wpAnyH_take (i := 8) (v := (.int .i64 c)) rfl (by kernel_rfl) (by kernel_rfl) (by kernel_rfl) (fun _ _ _ h => by cases h.1) (.inl ⟨by rfl, fun w _ => by go_simp⟩) hH ?_
            (try simp only [Act.put, List.setIfInBounds_toArray, List.set_cons_succ, List.set_cons_zero])
            refine wpAnyH_ready (rs := [9]) (by kernel_rfl) (by simp) (AllReadyH.cons rfl (fun K hK => ?_) AllReadyH.nil)
            rw [if_pos (by rfl)]
            go_simp
            have V := heap_at X18 (.cells Sh.zero.row 36) _ rfl
            have n0 := row_lt hH.2.1
            have n1 := row_lt hH.2.2.1
            have n2 := row_lt hH.2.2.2
            replace hH : Below w.heap.size w (X18.alloc (.cells Sh.zero.row 36)) ∧ (X18.alloc (.cells Sh.zero.row 36)).heap[w.heap.size]? = some (.cells (vrow 266 s.at) 31) ∧ (X18.alloc (.cells Sh.zero.row 36)).heap[w.heap.size + 1]? = some (.cells (vrow 2 (spAt x y)) 33) ∧ (X18.alloc (.cells Sh.zero.row 36)).heap[b5]? = some (.cells (vrow 266 r.at) 36) := ⟨hH.1.alloc hH.1.size _, heap_past _ _ _ _ (row_lt hH.2.1) hH.2.1, heap_past _ _ _ _ (row_lt hH.2.2.1) hH.2.2.1, heap_past _ _ _ _ (row_lt hH.2.2.2) hH.2.2.2⟩
            refine hK.out _ _ hH (fun hH => ?_)
            clear hK K
            (try simp only [Act.put, List.setIfInBounds_toArray, List.set_cons_succ, List.set_cons_zero])
            generalize hb7 : X18.heap.size = b7 at V n0 n1 n2 ⊢
            generalize X18.alloc _ = Y20 at hH V ⊢
            clear hb7
            refine wpAnyH_ready (rs := [10]) (by kernel_rfl) (by simp) (AllReadyH.cons rfl (fun K hK => ?_) AllReadyH.nil)
            rw [if_pos (by rfl)]
            unfold Oper.wp
            rw [run_storemid 36 (.tmp 9) (.tmp 27) rfl b7 0 rfl 266 266 Sh.zero.at r.at rfl 36 size_sheet V (by omega) (fun i _ => r.one i), vrow_over_all, Oper.upon_skip]
            have V2 := row_set V (vrow 266 r.at)
            have hH2 : Below w.heap.size w (Y20.setRow b7 (vrow 266 r.at)) ∧ (Y20.setRow b7 (vrow 266 r.at)).heap[w.heap.size]? = some (.cells (vrow 266 s.at) 31) ∧ (Y20.setRow b7 (vrow 266 r.at)).heap[w.heap.size + 1]? = some (.cells (vrow 2 (spAt x y)) 33) ∧ (Y20.setRow b7 (vrow 266 r.at)).heap[b5]? = some (.cells (vrow 266 r.at) 36) := ⟨Below_setRow hH.1 (by omega) _, row_set' (by omega) hH.2.1 _, row_set' (by omega) hH.2.2.1 _, row_set' (by omega) hH.2.2.2 _⟩
            refine hK.out _ _ hH2 (fun hH => ?_)
            clear hK K hH2
            (try simp only [Act.put, List.setIfInBounds_toArray, List.set_cons_succ, List.set_cons_zero])
            refine wpAnyH_take (i := 11) (v := (.int .i64 c)) rfl (by kernel_rfl) (by kernel_rfl) (by kernel_rfl) (fun _ _ _ h => by cases h.1) (.inl ⟨by rfl, fun w _ => by go_simp⟩) hH ?_
            (try simp only [Act.put, List.setIfInBounds_toArray, List.set_cons_succ, List.set_cons_zero])
            refine wpAnyH_done (by kernel_rfl) ?_ _
            exact ⟨rfl, b7, rfl, hH, V2⟩
          · rw [if_pos (by rfl)]
            go_simp
            have V := heap_at X16 (.cells Sh.zero.row 36) _ rfl
            have n0 := row_lt hH.2.1
            have n1 := row_lt hH.2.2.1
            have n2 := row_lt hH.2.2.2
            replace hH : Below w.heap.size w (X16.alloc (.cells Sh.zero.row 36)) ∧ (X16.alloc (.cells Sh.zero.row 36)).heap[w.heap.size]? = some (.cells (vrow 266 s.at) 31) ∧ (X16.alloc (.cells Sh.zero.row 36)).heap[w.heap.size + 1]? = some (.cells (vrow 2 (spAt x y)) 33) ∧ (X16.alloc (.cells Sh.zero.row 36)).heap[b5]? = some (.cells (vrow 266 r.at) 36) := ⟨hH.1.alloc hH.1.size _, heap_past _ _ _ _ (row_lt hH.2.1) hH.2.1, heap_past _ _ _ _ (row_lt hH.2.2.1) hH.2.2.1, heap_past _ _ _ _ (row_lt hH.2.2.2) hH.2.2.2⟩
            refine hK.out _ _ hH (fun hH => ?_)
            clear hK K
            (try simp only [Act.put, List.setIfInBounds_toArray, List.set_cons_succ, List.set_cons_zero])
            generalize hb7 : X16.heap.size = b7 at V n0 n1 n2 ⊢
            generalize X16.alloc _ = Y19 at hH V ⊢
            clear hb7
            refine wpAnyH_ready (rs := [5]) (by kernel_rfl) (by simp) (AllReadyH.cons rfl (fun K hK => ?_) AllReadyH.nil)
            rw [if_pos (by rfl)]
            go_simp
            go_at_call 27
            refine (HI.out _ (hE.next hH.1)).mono ?_
            rintro o X21 ⟨rfl, hb⟩
            replace hH : Below w.heap.size w X21 ∧ X21.heap[w.heap.size]? = some (.cells (vrow 266 s.at) 31) ∧ X21.heap[w.heap.size + 1]? = some (.cells (vrow 2 (spAt x y)) 33) ∧ X21.heap[b5]? = some (.cells (vrow 266 r.at) 36) := ⟨hH.1.trans (hb.mono hH.1.size), row_next hb hH.2.1, row_next hb hH.2.2.1, row_next hb hH.2.2.2⟩
            replace V := row_next hb V
            clear hb
            refine hK.out _ _ hH (fun hH => ?_)
            clear hK K
            (try simp only [Act.put, List.setIfInBounds_toArray, List.set_cons_succ, List.set_cons_zero])
            refine wpAnyH_take (i := 6) (v := (.tuple #[.agg r.row, .int .i64 c])) rfl (by kernel_rfl) (by kernel_rfl) (by kernel_rfl) (fun _ _ _ h => by cases h.1) (.inl ⟨by rfl, fun w _ => by go_simp⟩) hH ?_
            (try simp only [Act.put, List.setIfInBounds_toArray, List.set_cons_succ, List.set_cons_zero])
            refine wpAnyH_take (i := 7) (v := (.agg r.row)) rfl (by kernel_rfl) (by kernel_rfl) (by kernel_rfl) (fun _ _ _ h => by cases h.1) (.inl ⟨by rfl, fun w _ => by go_simp⟩) hH ?_
            (try simp only [Act.put, List.setIfInBounds_toArray, List.set_cons_succ, List.set_cons_zero])
            refine wpAnyH_take (i := 8) (v := (.int .i64 c)) rfl (by kernel_rfl) (by kernel_rfl) (by kernel_rfl) (fun _ _ _ h => by cases h.1) (.inl ⟨by rfl, fun w _ => by go_simp⟩) hH ?_
            (try simp only [Act.put, List.setIfInBounds_toArray, List.set_cons_succ, List.set_cons_zero])
            refine wpAnyH_ready (rs := [10]) (by kernel_rfl) (by simp) (AllReadyH.cons rfl (fun K hK => ?_) AllReadyH.nil)
            rw [if_pos (by rfl)]
            unfold Oper.wp
            rw [run_storemid 36 (.tmp 9) (.tmp 27) rfl b7 0 rfl 266 266 Sh.zero.at r.at rfl 36 size_sheet V (by omega) (fun i _ => r.one i), vrow_over_all, Oper.upon_skip]
            have V2 := row_set V (vrow 266 r.at)
            have hH2 : Below w.heap.size w (X21.setRow b7 (vrow 266 r.at)) ∧ (X21.setRow b7 (vrow 266 r.at)).heap[w.heap.size]? = some (.cells (vrow 266 s.at) 31) ∧ (X21.setRow b7 (vrow 266 r.at)).heap[w.heap.size + 1]? = some (.cells (vrow 2 (spAt x y)) 33) ∧ (X21.setRow b7 (vrow 266 r.at)).heap[b5]? = some (.cells (vrow 266 r.at) 36) := ⟨Below_setRow hH.1 (by omega) _, row_set' (by omega) hH.2.1 _, row_set' (by omega) hH.2.2.1 _, row_set' (by omega) hH.2.2.2 _⟩
            refine hK.out _ _ hH2 (fun hH => ?_)
            clear hK K hH2
            (try simp only [Act.put, List.setIfInBounds_toArray, List.set_cons_succ, List.set_cons_zero])
            refine wpAnyH_take (i := 11) (v := (.int .i64 c)) rfl (by kernel_rfl) (by kernel_rfl) (by kernel_rfl) (fun _ _ _ h => by cases h.1) (.inl ⟨by rfl, fun w _ => by go_simp⟩) hH ?_
            (try simp only [Act.put, List.setIfInBounds_toArray, List.set_cons_succ, List.set_cons_zero])
            refine wpAnyH_done (by kernel_rfl) ?_ _
            exact ⟨rfl, b7, rfl, hH, V2⟩
        · rw [if_pos (by rfl)]
          go_simp
          have V := heap_at X14 (.cells Sh.zero.row 36) _ rfl
          have n0 := row_lt hH.2.1
          have n1 := row_lt hH.2.2.1
          have n2 := row_lt hH.2.2.2
          replace hH : Below w.heap.size w (X14.alloc (.cells Sh.zero.row 36)) ∧ (X14.alloc (.cells Sh.zero.row 36)).heap[w.heap.size]? = some (.cells (vrow 266 s.at) 31) ∧ (X14.alloc (.cells Sh.zero.row 36)).heap[w.heap.size + 1]? = some (.cells (vrow 2 (spAt x y)) 33) ∧ (X14.alloc (.cells Sh.zero.row 36)).heap[b5]? = some (.cells (vrow 266 r.at) 36) := ⟨hH.1.alloc hH.1.size _, heap_past _ _ _ _ (row_lt hH.2.1) hH.2.1, heap_past _ _ _ _ (row_lt hH.2.2.1) hH.2.2.1, heap_past _ _ _ _ (row_lt hH.2.2.2) hH.2.2.2⟩
          refine hK.out _ _ hH (fun hH => ?_)
          clear hK K
          (try simp only [Act.put, List.setIfInBounds_toArray, List.set_cons_succ, List.set_cons_zero])
          generalize hb7 : X14.heap.size = b7 at V n0 n1 n2 ⊢
          generalize X14.alloc _ = Y17 at hH V ⊢
          clear hb7
          refine wpAnyH_ready (rs := [3]) (by kernel_rfl) (by simp) (AllReadyH.cons rfl (fun K hK => ?_) AllReadyH.nil)
          rw [if_pos (by rfl)]
          go_simp
          go_at_call 17
          refine (HP.out _).mono ?_
          rintro o X22 ⟨rfl, hb⟩
          replace hH : Below w.heap.size w X22 ∧ X22.heap[w.heap.size]? = some (.cells (vrow 266 s.at) 31) ∧ X22.heap[w.heap.size + 1]? = some (.cells (vrow 2 (spAt x y)) 33) ∧ X22.heap[b5]? = some (.cells (vrow 266 r.at) 36) := ⟨hH.1.trans (hb.mono hH.1.size), row_next hb hH.2.1, row_next hb hH.2.2.1, row_next hb hH.2.2.2⟩
          replace V := row_next hb V
          clear hb
          refine hK.out _ _ hH (fun hH => ?_)
          clear hK K
          (try simp only [Act.put, List.setIfInBounds_toArray, List.set_cons_succ, List.set_cons_zero])
          refine wpAnyH_ready (rs := [5]) (by kernel_rfl) (by simp) (AllReadyH.cons rfl (fun K hK => ?_) AllReadyH.nil)
          rw [if_pos (by rfl)]
          go_simp
          go_at_call 27
          refine (HI.out _ (hE.next hH.1)).mono ?_
          rintro o X23 ⟨rfl, hb⟩
          replace hH : Below w.heap.size w X23 ∧ X23.heap[w.heap.size]? = some (.cells (vrow 266 s.at) 31) ∧ X23.heap[w.heap.size + 1]? = some (.cells (vrow 2 (spAt x y)) 33) ∧ X23.heap[b5]? = some (.cells (vrow 266 r.at) 36) := ⟨hH.1.trans (hb.mono hH.1.size), row_next hb hH.2.1, row_next hb hH.2.2.1, row_next hb hH.2.2.2⟩
          replace V := row_next hb V
          clear hb
          refine hK.out _ _ hH (fun hH => ?_)
          clear hK K
          (try simp only [Act.put, List.setIfInBounds_toArray, List.set_cons_succ, List.set_cons_zero])
          refine wpAnyH_take (i := 6) (v := (.tuple #[.agg r.row, .int .i64 c])) rfl (by kernel_rfl) (by kernel_rfl) (by kernel_rfl) (fun _ _ _ h => by cases h.1) (.inl ⟨by rfl, fun w _ => by go_simp⟩) hH ?_
          (try simp only [Act.put, List.setIfInBounds_toArray, List.set_cons_succ, List.set_cons_zero])
          refine wpAnyH_take (i := 7) (v := (.agg r.row)) rfl (by kernel_rfl) (by kernel_rfl) (by kernel_rfl) (fun _ _ _ h => by cases h.1) (.inl ⟨by rfl, fun w _ => by go_simp⟩) hH ?_
          (try simp only [Act.put, List.setIfInBounds_toArray, List.set_cons_succ, List.set_cons_zero])
          refine wpAnyH_take (i := 8) (v := (.int .i64 c)) rfl (by kernel_rfl) (by kernel_rfl) (by kernel_rfl) (fun _ _ _ h => by cases h.1) (.inl ⟨by rfl, fun w _ => by go_simp⟩) hH ?_
          (try simp only [Act.put, List.setIfInBounds_toArray, List.set_cons_succ, List.set_cons_zero])
          refine wpAnyH_ready (rs := [10]) (by kernel_rfl) (by simp) (AllReadyH.cons rfl (fun K hK => ?_) AllReadyH.nil)
          rw [if_pos (by rfl)]
          unfold Oper.wp
          rw [run_storemid 36 (.tmp 9) (.tmp 27) rfl b7 0 rfl 266 266 Sh.zero.at r.at rfl 36 size_sheet V (by omega) (fun i _ => r.one i), vrow_over_all, Oper.upon_skip]
          have V2 := row_set V (vrow 266 r.at)
          have hH2 : Below w.heap.size w (X23.setRow b7 (vrow 266 r.at)) ∧ (X23.setRow b7 (vrow 266 r.at)).heap[w.heap.size]? = some (.cells (vrow 266 s.at) 31) ∧ (X23.setRow b7 (vrow 266 r.at)).heap[w.heap.size + 1]? = some (.cells (vrow 2 (spAt x y)) 33) ∧ (X23.setRow b7 (vrow 266 r.at)).heap[b5]? = some (.cells (vrow 266 r.at) 36) := ⟨Below_setRow hH.1 (by omega) _, row_set' (by omega) hH.2.1 _, row_set' (by omega) hH.2.2.1 _, row_set' (by omega) hH.2.2.2 _⟩
          refine hK.out _ _ hH2 (fun hH => ?_)
          clear hK K hH2
          (try simp only [Act.put, List.setIfInBounds_toArray, List.set_cons_succ, List.set_cons_zero])
          refine wpAnyH_take (i := 11) (v := (.int .i64 c)) rfl (by kernel_rfl) (by kernel_rfl) (by kernel_rfl) (fun _ _ _ h => by cases h.1) (.inl ⟨by rfl, fun w _ => by go_simp⟩) hH ?_
          (try simp only [Act.put, List.setIfInBounds_toArray, List.set_cons_succ, List.set_cons_zero])
          refine wpAnyH_done (by kernel_rfl) ?_ _
          exact ⟨rfl, b7, rfl, hH, V2⟩
      · rw [if_pos (by rfl)]
        go_simp
        have V := heap_at W (.cells Sh.zero.row 36) _ rfl
        have n0 := row_lt hH.2.1
        have n1 := row_lt hH.2.2.1
        have n2 := row_lt hH.2.2.2
        replace hH : Below w.heap.size w (W.alloc (.cells Sh.zero.row 36)) ∧ (W.alloc (.cells Sh.zero.row 36)).heap[w.heap.size]? = some (.cells (vrow 266 s.at) 31) ∧ (W.alloc (.cells Sh.zero.row 36)).heap[w.heap.size + 1]? = some (.cells (vrow 2 (spAt x y)) 33) ∧ (W.alloc (.cells Sh.zero.row 36)).heap[b5]? = some (.cells (vrow 266 r.at) 36) := ⟨hH.1.alloc hH.1.size _, heap_past _ _ _ _ (row_lt hH.2.1) hH.2.1, heap_past _ _ _ _ (row_lt hH.2.2.1) hH.2.2.1, heap_past _ _ _ _ (row_lt hH.2.2.2) hH.2.2.2⟩
        refine hK.out _ _ hH (fun hH => ?_)
        clear hK K
        (try simp only [Act.put, List.setIfInBounds_toArray, List.set_cons_succ, List.set_cons_zero])
        generalize hb7 : W.heap.size = b7 at V n0 n1 n2 ⊢
        generalize W.alloc _ = Y15 at hH V ⊢
        clear hb7
        refine wpAnyH_ready (rs := [1]) (by kernel_rfl) (by simp) (AllReadyH.cons rfl (fun K hK => ?_) AllReadyH.nil)
        rw [if_pos (by rfl)]
        go_simp
        go_at_call 16
        refine (HT.out _).mono ?_
        rintro o X24 ⟨rfl, hb⟩
        replace hH : Below w.heap.size w X24 ∧ X24.heap[w.heap.size]? = some (.cells (vrow 266 s.at) 31) ∧ X24.heap[w.heap.size + 1]? = some (.cells (vrow 2 (spAt x y)) 33) ∧ X24.heap[b5]? = some (.cells (vrow 266 r.at) 36) := ⟨hH.1.trans (hb.mono hH.1.size), row_next hb hH.2.1, row_next hb hH.2.2.1, row_next hb hH.2.2.2⟩
        replace V := row_next hb V
        clear hb
        refine hK.out _ _ hH (fun hH => ?_)
        clear hK K
        (try simp only [Act.put, List.setIfInBounds_toArray, List.set_cons_succ, List.set_cons_zero])
        refine wpAnyH_ready (rs := [3]) (by kernel_rfl) (by simp) (AllReadyH.cons rfl (fun K hK => ?_) AllReadyH.nil)
        rw [if_pos (by rfl)]
        go_simp
        go_at_call 17
        refine (HP.out _).mono ?_
        rintro o X25 ⟨rfl, hb⟩
        replace hH : Below w.heap.size w X25 ∧ X25.heap[w.heap.size]? = some (.cells (vrow 266 s.at) 31) ∧ X25.heap[w.heap.size + 1]? = some (.cells (vrow 2 (spAt x y)) 33) ∧ X25.heap[b5]? = some (.cells (vrow 266 r.at) 36) := ⟨hH.1.trans (hb.mono hH.1.size), row_next hb hH.2.1, row_next hb hH.2.2.1, row_next hb hH.2.2.2⟩
        replace V := row_next hb V
        clear hb
        refine hK.out _ _ hH (fun hH => ?_)
        clear hK K
        (try simp only [Act.put, List.setIfInBounds_toArray, List.set_cons_succ, List.set_cons_zero])
        refine wpAnyH_ready (rs := [5]) (by kernel_rfl) (by simp) (AllReadyH.cons rfl (fun K hK => ?_) AllReadyH.nil)
        rw [if_pos (by rfl)]
        go_simp
        go_at_call 27
        refine (HI.out _ (hE.next hH.1)).mono ?_
        rintro o X26 ⟨rfl, hb⟩
        replace hH : Below w.heap.size w X26 ∧ X26.heap[w.heap.size]? = some (.cells (vrow 266 s.at) 31) ∧ X26.heap[w.heap.size + 1]? = some (.cells (vrow 2 (spAt x y)) 33) ∧ X26.heap[b5]? = some (.cells (vrow 266 r.at) 36) := ⟨hH.1.trans (hb.mono hH.1.size), row_next hb hH.2.1, row_next hb hH.2.2.1, row_next hb hH.2.2.2⟩
        replace V := row_next hb V
        clear hb
        refine hK.out _ _ hH (fun hH => ?_)
        clear hK K
        (try simp only [Act.put, List.setIfInBounds_toArray, List.set_cons_succ, List.set_cons_zero])
        refine wpAnyH_take (i := 6) (v := (.tuple #[.agg r.row, .int .i64 c])) rfl (by kernel_rfl) (by kernel_rfl) (by kernel_rfl) (fun _ _ _ h => by cases h.1) (.inl ⟨by rfl, fun w _ => by go_simp⟩) hH ?_
        (try simp only [Act.put, List.setIfInBounds_toArray, List.set_cons_succ, List.set_cons_zero])
        refine wpAnyH_take (i := 7) (v := (.agg r.row)) rfl (by kernel_rfl) (by kernel_rfl) (by kernel_rfl) (fun _ _ _ h => by cases h.1) (.inl ⟨by rfl, fun w _ => by go_simp⟩) hH ?_
        (try simp only [Act.put, List.setIfInBounds_toArray, List.set_cons_succ, List.set_cons_zero])
        refine wpAnyH_take (i := 8) (v := (.int .i64 c)) rfl (by kernel_rfl) (by kernel_rfl) (by kernel_rfl) (fun _ _ _ h => by cases h.1) (.inl ⟨by rfl, fun w _ => by go_simp⟩) hH ?_
        (try simp only [Act.put, List.setIfInBounds_toArray, List.set_cons_succ, List.set_cons_zero])
        refine wpAnyH_ready (rs := [10]) (by kernel_rfl) (by simp) (AllReadyH.cons rfl (fun K hK => ?_) AllReadyH.nil)
        rw [if_pos (by rfl)]
        unfold Oper.wp
        rw [run_storemid 36 (.tmp 9) (.tmp 27) rfl b7 0 rfl 266 266 Sh.zero.at r.at rfl 36 size_sheet V (by omega) (fun i _ => r.one i), vrow_over_all, Oper.upon_skip]
        have V2 := row_set V (vrow 266 r.at)
        have hH2 : Below w.heap.size w (X26.setRow b7 (vrow 266 r.at)) ∧ (X26.setRow b7 (vrow 266 r.at)).heap[w.heap.size]? = some (.cells (vrow 266 s.at) 31) ∧ (X26.setRow b7 (vrow 266 r.at)).heap[w.heap.size + 1]? = some (.cells (vrow 2 (spAt x y)) 33) ∧ (X26.setRow b7 (vrow 266 r.at)).heap[b5]? = some (.cells (vrow 266 r.at) 36) := ⟨Below_setRow hH.1 (by omega) _, row_set' (by omega) hH.2.1 _, row_set' (by omega) hH.2.2.1 _, row_set' (by omega) hH.2.2.2 _⟩
        refine hK.out _ _ hH2 (fun hH => ?_)
        clear hK K hH2
        (try simp only [Act.put, List.setIfInBounds_toArray, List.set_cons_succ, List.set_cons_zero])
        refine wpAnyH_take (i := 11) (v := (.int .i64 c)) rfl (by kernel_rfl) (by kernel_rfl) (by kernel_rfl) (fun _ _ _ h => by cases h.1) (.inl ⟨by rfl, fun w _ => by go_simp⟩) hH ?_
        (try simp only [Act.put, List.setIfInBounds_toArray, List.set_cons_succ, List.set_cons_zero])
        refine wpAnyH_done (by kernel_rfl) ?_ _
        exact ⟨rfl, b7, rfl, hH, V2⟩
    · rintro e2 a2 W2 ⟨rfl, b7, rfl, ⟨hB, P, R, V5⟩, V7⟩
      replace hB := Go.Lib.hid hB; replace P := Go.Lib.hid P; replace R := Go.Lib.hid R; replace V5 := Go.Lib.hid V5; replace V7 := Go.Lib.hid V7
      go_wp2_with (first
        | (refine wpList_loadall rfl 36 (.tmp 9) rfl _ rfl 266 r.at 36 _ Tryd.underlying36 rfl size_sheet V7.out ?_)
        | (refine wpList_loadall rfl 36 (.tmp 7) rfl _ rfl 266 r.at 36 _ Tryd.underlying36 rfl size_sheet V5.out ?_)
        | (go_at_call 25; refine (eqSheet_any r _).mono ?_; rintro o w3 ⟨rfl, hb⟩; replace hB := Go.Lib.hid (below_next hB.out hb); clear hb))
      go_ret
      exact ⟨rfl, hB.out⟩
theorem bare_wet (s : Sh) (x y : Nat) (hv : okI s = true) (hx : x < 8) (hy : y < 8) (h : bareB s x y = false) (hw : ¬ 0 < s.wet (8 * y + x)) : s.wet (8 * y + x) = 0 ∧ 0 < darkB s x y := by
  obtain ⟨h0, h1, h2, h3⟩ := ok_bounds s hv x y hx hy
  have hz : s.wet (8 * y + x) = 0 := by omega
  refine ⟨hz, ?_⟩
  by_cases c : 0 < darkB s x y
  · exact c
  · exfalso
    unfold darkB at c
    have : bareB s x y = true := by
      unfold bareB
      rw [hz, show s.dye (24 * y + 3 * x) = 0 by omega, show s.dye (24 * y + 3 * x + 1) = 0 by omega, show s.dye (24 * y + 3 * x + 2) = 0 by omega]
      rfl
    rw [this] at h
    cases h
theorem bare_dry (s : Sh) (x y : Nat) (h : bareB s x y = true) : s.wet (8 * y + x) = 0 ∧ darkB s x y = 0 := by
  simp only [bareB, Bool.and_eq_true, beq_iff_eq] at h
  unfold darkB
  omega
theorem WaxC_law (s : Sh) (x y : Int) (on : Bool) (e : ErrE) (w : World) (hE : Errs e w) (hf : s.fit) (hx : -128 ≤ x ∧ x ≤ 127) (hy : -128 ≤ y ∧ y ≤ 127) : Calls Tryd.prog 7 #[.agg s.row, .agg #[.int .i8 x, .int .i8 y], .bool on] w fun o w' => o = .returned (.bool true) ∧ Below w.heap.size w w' := by
  cases hv : okI s
  · exact WaxC_walk s Sh.zero x y on 1 e w hE (fun w => specWaxC_bad s x y on w hf hx hy hv) (fun w hE => implWaxC_bad s x y on e w hE hv)
  · cases hh : hasB s x y
    · exact WaxC_walk s Sh.zero x y on 2 e w hE (fun w => specWaxC_no s x y on w hf hx hy hv hh) (fun w hE => implWaxC_no s x y on e w hE hv hh)
    · obtain ⟨x, y, rfl, rfl, hx, hy⟩ := ok_has s hv x y hh
      cases hb : bareB s x y
      · refine WaxC_walk s Sh.zero x y on 4 e w hE (fun w => ?_) (fun w hE => implWaxC_wet s x y on e w hE hf hx hy hv hh hb)
        by_cases hw : 0 < s.wet (8 * y + x)
        · exact specWaxC_wetA s x y on w hf hx hy hv hh hw
        · obtain ⟨h1, h2⟩ := bare_wet s x y hv hx hy hb hw
          exact specWaxC_wetB s x y on w hf hx hy hv hh h1 h2
      · obtain ⟨h1, h2⟩ := bare_dry s x y hb
        cases on
        · exact WaxC_walk s _ x y false 0 e w hE (fun w => specWaxC_off s x y w hf hx hy hv hh h1 h2) (fun w hE => implWaxC_off s x y e w hE hf hx hy hv hh hb)
        · exact WaxC_walk s _ x y true 0 e w hE (fun w => specWaxC_on s x y w hf hx hy hv hh h1 h2) (fun w hE => implWaxC_on s x y e w hE hf hx hy hv hh hb)
end Go.Proofs.YtfdjlflnhhiecaaDoor
