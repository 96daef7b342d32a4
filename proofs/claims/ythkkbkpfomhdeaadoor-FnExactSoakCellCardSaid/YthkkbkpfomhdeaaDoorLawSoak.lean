import Derived.Deep.RegionHeld3
import Derived.Test.YthkkbkpfomhdeaaDoorEqSheet
import Derived.Test.YthkkbkpfomhdeaaDoorDrop2
import Derived.Test.YthkkbkpfomhdeaaDoorG1
namespace Go.Proofs.YthkkbkpfomhdeaaDoor
open Go.RowKit
set_option maxRecDepth 100000
set_option linter.unusedVariables false
set_option linter.unusedSimpArgs false
theorem drop_both (s : Sh) (x y k n m : Int) (hf : s.fit) (hx : -128 ≤ x ∧ x ≤ 127) (hy : -128 ≤ y ∧ y ≤ 127) (e : ErrE) : ∃ (r : Sh) (c : Int), (∀ w, Calls Tryd.prog 66 #[.agg s.row, .agg #[.int .i8 x, .int .i8 y], .int .i64 k, .int .i64 n, .int .i64 m] w fun e w' => e = .returned (.tuple #[.agg r.row, .int .i64 c]) ∧ Below w.heap.size w w') ∧ (∀ w, Errs e w → Calls Tryd.prog 67 #[.agg s.row, .agg #[.int .i8 x, .int .i8 y], .int .i64 k, .int .i64 n, .int .i64 m] w fun o w' => o = .returned (.tuple #[.agg r.row, .int .i64 c]) ∧ Below w.heap.size w w') := by
  cases hv : okI s
  · exact ⟨Sh.zero, 1, fun w => specDrop_bad s x y k n m w hf hx hy hv, fun w hE => implDrop_bad s x y k n m e w hE hv⟩
  · cases hh : hasB s x y
    · exact ⟨Sh.zero, 2, fun w => specDrop_no s x y k n m w hf hx hy hv hh, fun w hE => implDrop_no s x y k n m e w hE hv hh⟩
    · cases hfi : fineB k n m
      · exact ⟨Sh.zero, 2, fun w => specDrop_un s x y k n m w hf hx hy hv hh hfi, fun w hE => implDrop_un s x y k n m e w hE hv hh hfi⟩
      · obtain ⟨x, y, rfl, rfl, hx, hy⟩ := ok_has s hv x y hh
        cases hw : waxB s x y
        · by_cases hl : 1000 < s.dye (24 * y + 3 * x + k.toNat) + n
          · exact ⟨Sh.zero, 3, fun w => specDrop_limA s x y k n m w hf hx hy hv hh hfi hw hl, fun w hE => implDrop_limA s x y k n m e w hE hf hx hy hv hh hfi hw hl⟩
          · by_cases hl2 : 200 < s.wet (8 * y + x) + m
            · exact ⟨Sh.zero, 3, fun w => specDrop_limB s x y k n m w hf hx hy hv hh hfi hw hl hl2, fun w hE => implDrop_limB s x y k n m e w hE hf hx hy hv hh hfi hw hl hl2⟩
            · exact ⟨_, 0, fun w => specDrop_ok s x y k n m w hf hx hy hv hh hfi hw hl hl2, fun w hE => implDrop_ok s x y k n m e w hE hf hx hy hv hh hfi hw hl hl2⟩
        · exact ⟨Sh.zero, 4, fun w => specDrop_wax s x y k n m w hf hx hy hv hh hfi hw, fun w hE => implDrop_wax s x y k n m e w hE hf hx hy hv hh hfi hw⟩
set_option maxHeartbeats 1000000 in
theorem specSoak (s r : Sh) (x y m c : Int) (w : World) (hD : ∀ w, Calls Tryd.prog 66 #[.agg s.row, .agg #[.int .i8 x, .int .i8 y], .int .i64 0, .int .i64 0, .int .i64 m] w fun o w' => o = .returned (.tuple #[.agg r.row, .int .i64 c]) ∧ Below w.heap.size w w') : Calls Tryd.prog 23 #[.agg s.row, .agg #[.int .i8 x, .int .i8 y], .int .i64 m] w fun o w' => o = .returned (.tuple #[.agg r.row, .int .i64 c]) ∧ Below w.heap.size w w' := by
  have zz := zero_sheet
  simp only [sp_vrow] at hD ⊢
  have HD := Go.Lib.hid hD
  clear hD
  have hB : Hid (Below w.heap.size w (((w.alloc (.cells (vrow 266 s.at) 47)).alloc (.cells (vrow 2 (spAt x y)) 51)).alloc (.cells (vrow 266 Sh.zero.at) 47))) := ((((Below.refl w.heap.size w).alloc (by simp <;> omega) _).alloc (by simp <;> omega) _).alloc (by simp <;> omega) _)
  have P : Hid ((((w.alloc (.cells (vrow 266 s.at) 47)).alloc (.cells (vrow 2 (spAt x y)) 51)).alloc (.cells (vrow 266 Sh.zero.at) 47)).heap[(w.heap.size)]? = some (.cells (vrow 266 s.at) 47)) := heap_past _ _ _ _ (by first | omega | (simp <;> omega)) (heap_past _ _ _ _ (by first | omega | (simp <;> omega)) (heap_at _ _ _ (by simp)))
  have R : Hid ((((w.alloc (.cells (vrow 266 s.at) 47)).alloc (.cells (vrow 2 (spAt x y)) 51)).alloc (.cells (vrow 266 Sh.zero.at) 47)).heap[(w.heap.size + 1)]? = some (.cells (vrow 2 (spAt x y)) 51)) := heap_past _ _ _ _ (by first | omega | (simp <;> omega)) (heap_at _ _ _ (by simp))
  have Z : Hid ((((w.alloc (.cells (vrow 266 s.at) 47)).alloc (.cells (vrow 2 (spAt x y)) 51)).alloc (.cells (vrow 266 Sh.zero.at) 47)).heap[(w.heap.size + 1 + 1)]? = some (.cells (vrow 266 Sh.zero.at) 47)) := heap_at _ _ _ (by simp)
  go_enter Tryd.func23, Tryd.ntmps23
  go_wp2_with (first
    | (refine wpList_loadall rfl 47 (.tmp 3) rfl _ rfl 266 s.at 47 _ Tryd.underlying47 rfl size_sheet P.out ?_)
    | (refine wpList_loadall rfl 51 (.tmp 4) rfl _ rfl 2 (spAt x y) 51 _ Tryd.underlying51 rfl size_spot R.out ?_)
    | (go_at_call 66; (refine (HD.out _).mono ?_; rintro e w1 ⟨rfl, hb⟩; replace P := Go.Lib.hid (row_next hb P.out); replace R := Go.Lib.hid (row_next hb R.out); replace Z := Go.Lib.hid (row_next hb Z.out); replace hB := Go.Lib.hid (below_next hB.out hb); clear hb ))
    | (refine wpList_storeall rfl 47 (.tmp 6) (.tmp 12) rfl (w.heap.size + 2) rfl 266 Sh.zero.at r.at rfl 47 size_sheet Z.out (fun i _ => r.one i) ?_; replace Z := Go.Lib.hid (row_set Z.out (vrow 266 r.at)); replace hB := Go.Lib.hid (Below_setRow hB.out (show w.heap.size ≤ w.heap.size + 2 by omega) (vrow 266 r.at))))
  exact ret_row2 Tryd.results23 (w.heap.size + 2) 266 r.at 47 _ Tryd.underlying47 rfl size_sheet (.int .i64 c) rfl rfl rfl Z.out ⟨rfl, hB.out⟩
set_option maxHeartbeats 1000000 in
theorem implSoak (s r : Sh) (x y m c : Int) (e : ErrE) (hD : ∀ w, Errs e w → Calls Tryd.prog 67 #[.agg s.row, .agg #[.int .i8 x, .int .i8 y], .int .i64 0, .int .i64 0, .int .i64 m] w fun o w' => o = .returned (.tuple #[.agg r.row, .int .i64 c]) ∧ Below w.heap.size w w') (w : World) (hE : Errs e w) : Calls Tryd.prog 24 #[.agg s.row, .agg #[.int .i8 x, .int .i8 y], .int .i64 m] w fun o w' => o = .returned (.tuple #[.agg r.row, .int .i64 c]) ∧ Below w.heap.size w w' := by
  have zz := zero_sheet
  simp only [sp_vrow] at hD ⊢
  have HD := Go.Lib.hid hD
  clear hD
  have hB : Hid (Below w.heap.size w (((w.alloc (.cells (vrow 266 s.at) 47)).alloc (.cells (vrow 2 (spAt x y)) 51)).alloc (.cells (vrow 266 Sh.zero.at) 47))) := ((((Below.refl w.heap.size w).alloc (by simp <;> omega) _).alloc (by simp <;> omega) _).alloc (by simp <;> omega) _)
  have P : Hid ((((w.alloc (.cells (vrow 266 s.at) 47)).alloc (.cells (vrow 2 (spAt x y)) 51)).alloc (.cells (vrow 266 Sh.zero.at) 47)).heap[(w.heap.size)]? = some (.cells (vrow 266 s.at) 47)) := heap_past _ _ _ _ (by first | omega | (simp <;> omega)) (heap_past _ _ _ _ (by first | omega | (simp <;> omega)) (heap_at _ _ _ (by simp)))
  have R : Hid ((((w.alloc (.cells (vrow 266 s.at) 47)).alloc (.cells (vrow 2 (spAt x y)) 51)).alloc (.cells (vrow 266 Sh.zero.at) 47)).heap[(w.heap.size + 1)]? = some (.cells (vrow 2 (spAt x y)) 51)) := heap_past _ _ _ _ (by first | omega | (simp <;> omega)) (heap_at _ _ _ (by simp))
  have Z : Hid ((((w.alloc (.cells (vrow 266 s.at) 47)).alloc (.cells (vrow 2 (spAt x y)) 51)).alloc (.cells (vrow 266 Sh.zero.at) 47)).heap[(w.heap.size + 1 + 1)]? = some (.cells (vrow 266 Sh.zero.at) 47)) := heap_at _ _ _ (by simp)
  have E : Hid (Errs e (((w.alloc (.cells (vrow 266 s.at) 47)).alloc (.cells (vrow 2 (spAt x y)) 51)).alloc (.cells (vrow 266 Sh.zero.at) 47))) := (((hE).alloc _).alloc _).alloc _
  go_enter Tryd.func24, Tryd.ntmps24
  go_wp2_with (first
    | (refine wpList_loadall rfl 47 (.tmp 3) rfl _ rfl 266 s.at 47 _ Tryd.underlying47 rfl size_sheet P.out ?_)
    | (refine wpList_loadall rfl 51 (.tmp 4) rfl _ rfl 2 (spAt x y) 51 _ Tryd.underlying51 rfl size_spot R.out ?_)
    | (go_at_call 67; (refine (HD.out _ E.out).mono ?_; rintro e w1 ⟨rfl, hb⟩; replace P := Go.Lib.hid (row_next hb P.out); replace R := Go.Lib.hid (row_next hb R.out); replace Z := Go.Lib.hid (row_next hb Z.out); replace hB := Go.Lib.hid (below_next hB.out hb); replace E := Go.Lib.hid (E.out.next hb); clear hb ))
    | (refine wpList_storeall rfl 47 (.tmp 6) (.tmp 12) rfl (w.heap.size + 2) rfl 266 Sh.zero.at r.at rfl 47 size_sheet Z.out (fun i _ => r.one i) ?_; replace Z := Go.Lib.hid (row_set Z.out (vrow 266 r.at)); replace hB := Go.Lib.hid (Below_setRow hB.out (show w.heap.size ≤ w.heap.size + 2 by omega) (vrow 266 r.at))))
  exact ret_row2 Tryd.results24 (w.heap.size + 2) 266 r.at 47 _ Tryd.underlying47 rfl size_sheet (.int .i64 c) rfl rfl rfl Z.out ⟨rfl, hB.out⟩
set_option maxHeartbeats 4000000 in
theorem Soak_walk (s : Sh) (x y : Int) (m : Int) (r : Sh) (c : Int) (e : ErrE) (w : World) (hE : Errs e w)
    (hS : ∀ w, Calls Tryd.prog 23 #[.agg s.row, .agg #[.int .i8 x, .int .i8 y], .int .i64 m] w fun e w' => e = .returned (.tuple #[.agg r.row, .int .i64 c]) ∧ Below w.heap.size w w')
    (hI : ∀ w, Errs e w → Calls Tryd.prog 24 #[.agg s.row, .agg #[.int .i8 x, .int .i8 y], .int .i64 m] w fun e w' => e = .returned (.tuple #[.agg r.row, .int .i64 c]) ∧ Below w.heap.size w w') : Calls Tryd.prog 6 #[.agg s.row, .agg #[.int .i8 x, .int .i8 y], .int .i64 m] w fun o w' => o = .returned (.bool true) ∧ Below w.heap.size w w' := by
  have zz := zero_sheet
  have zs := zero_spot
  have HT0 := Go.Lib.hid (fun w => toSheet_any s w)
  have HT1 := Go.Lib.hid (fun w => toSpot_any x y w)
  simp only [sp_vrow] at hS hI
  have HS := Go.Lib.hid hS; have HI := Go.Lib.hid hI
  clear hS hI
  simp only [sp_vrow]
  have hB : Hid (Below w.heap.size w ((w.alloc (.cells (vrow 266 s.at) 44)).alloc (.cells (vrow 2 (spAt x y)) 46))) := (((Below.refl w.heap.size w).alloc (by simp <;> omega) _).alloc (by simp <;> omega) _)
  have P0 : Hid (((w.alloc (.cells (vrow 266 s.at) 44)).alloc (.cells (vrow 2 (spAt x y)) 46)).heap[(w.heap.size)]? = some (.cells (vrow 266 s.at) 44)) := heap_past _ _ _ _ (by first | omega | (simp <;> omega)) (heap_at _ _ _ (by simp))
  have P1 : Hid (((w.alloc (.cells (vrow 266 s.at) 44)).alloc (.cells (vrow 2 (spAt x y)) 46)).heap[(w.heap.size + 1)]? = some (.cells (vrow 2 (spAt x y)) 46)) := heap_at _ _ _ (by simp)
  go_enter Tryd.func6, Tryd.ntmps6
  go_wp2
  refine Code.wp_mono (Q := fun e a' W' => e = .normal ∧ ∃ b5, a' = { tmps := #[.agg s.row, .agg (vrow 2 (spAt x y)), .int .i64 m, .pointer (some ⟨w.heap.size, 0, none⟩), .pointer (some ⟨w.heap.size + 1, 0, none⟩), undef, .bool false, .pointer (some ⟨b5, 0, none⟩), .int .i64 c, undef, undef, .tuple #[.agg r.row, .int .i64 c], .agg s.row, .agg s.row, .agg (vrow 2 (spAt x y)), .agg (vrow 2 (spAt x y)), .int .i64 m, .tuple #[.agg r.row, .int .i64 c], .agg r.row, .int .i64 c, undef, undef, undef, undef, undef, undef, undef, undef, undef, undef, undef, undef, undef, undef, undef, undef, undef, undef], defers := [] } ∧ (Below w.heap.size w W' ∧ W'.heap[w.heap.size]? = some (.cells (vrow 266 s.at) 44) ∧ W'.heap[w.heap.size + 1]? = some (.cells (vrow 2 (spAt x y)) 46)) ∧ W'.heap[b5]? = some (.cells (vrow 266 r.at) 47)) ?_ ?_
  rotate_left
  · refine wp_region_held_drew (S := fun W' => Below w.heap.size w W' ∧ W'.heap[w.heap.size]? = some (.cells (vrow 266 s.at) 44) ∧ W'.heap[w.heap.size + 1]? = some (.cells (vrow 2 (spAt x y)) 46)) (by kernel_rfl) ⟨hB.out.drew, P0.out, P1.out⟩ (fun hH => ?_)
    clear hB P0 P1
    generalize World.drew _ = W at hH ⊢
    refine wpAnyH_take (i := 0) (v := (.agg (vrow 266 s.at))) rfl (by kernel_rfl) (by kernel_rfl) (by kernel_rfl) (fun _ _ _ h => by cases h.1) (yields_row (by rfl) 44 _ rfl (w.heap.size) rfl 266 s.at 44 _ Tryd.underlying44 rfl size_lsheet (fun _ h => h.2.1)) hH ?_
    (try simp only [Act.put, List.setIfInBounds_toArray, List.set_cons_succ, List.set_cons_zero])
    refine wpAnyH_take (i := 2) (v := (.agg (vrow 2 (spAt x y)))) rfl (by kernel_rfl) (by kernel_rfl) (by kernel_rfl) (fun _ _ _ h => by cases h.1) (yields_row (by rfl) 46 _ rfl (w.heap.size + 1) rfl 2 (spAt x y) 46 _ Tryd.underlying46 rfl size_lspot (fun _ h => h.2.2)) hH ?_
    (try simp only [Act.put, List.setIfInBounds_toArray, List.set_cons_succ, List.set_cons_zero])
    refine wpAnyH_take (i := 4) (v := (.int .i64 m)) rfl (by kernel_rfl) (by kernel_rfl) (by kernel_rfl) (fun _ _ _ h => by cases h.1) (.inl ⟨by rfl, fun w _ => by go_simp⟩) hH ?_
    (try simp only [Act.put, List.setIfInBounds_toArray, List.set_cons_succ, List.set_cons_zero])
    refine wpAnyH_ready (rs := [1, 9]) (by kernel_rfl) (by simp) (AllReadyH.cons rfl (fun K hK => ?_) (AllReadyH.cons rfl (fun K hK => ?_) AllReadyH.nil))
    · rw [if_pos (by rfl)]
      go_simp
      go_at_call 19
      refine (HT0.out _).mono ?_
      rintro o X1 ⟨rfl, hb⟩
      replace hH : Below w.heap.size w X1 ∧ X1.heap[w.heap.size]? = some (.cells (vrow 266 s.at) 44) ∧ X1.heap[w.heap.size + 1]? = some (.cells (vrow 2 (spAt x y)) 46) := ⟨hH.1.trans (hb.mono hH.1.size), row_next hb hH.2.1, row_next hb hH.2.2⟩
      clear hb
      refine hK.out _ _ hH (fun hH => ?_)
      clear hK K
      (try simp only [Act.put, List.setIfInBounds_toArray, List.set_cons_succ, List.set_cons_zero])
      refine wpAnyH_ready (rs := [3, 9]) (by kernel_rfl) (by simp) (AllReadyH.cons rfl (fun K hK => ?_) (AllReadyH.cons rfl (fun K hK => ?_) AllReadyH.nil))
      · rw [if_pos (by rfl)]
        go_simp
        go_at_call 20
        refine (HT1.out _).mono ?_
        rintro o X3 ⟨rfl, hb⟩
        replace hH : Below w.heap.size w X3 ∧ X3.heap[w.heap.size]? = some (.cells (vrow 266 s.at) 44) ∧ X3.heap[w.heap.size + 1]? = some (.cells (vrow 2 (spAt x y)) 46) := ⟨hH.1.trans (hb.mono hH.1.size), row_next hb hH.2.1, row_next hb hH.2.2⟩
        clear hb
        refine hK.out _ _ hH (fun hH => ?_)
        clear hK K
        (try simp only [Act.put, List.setIfInBounds_toArray, List.set_cons_succ, List.set_cons_zero])
        refine wpAnyH_ready (rs := [5, 9]) (by kernel_rfl) (by simp) (AllReadyH.cons rfl (fun K hK => ?_) (AllReadyH.cons rfl (fun K hK => ?_) AllReadyH.nil))
        · rw [if_pos (by rfl)]
          go_simp
          go_at_call 23
          refine (HS.out _).mono ?_
          rintro o X5 ⟨rfl, hb⟩
          replace hH : Below w.heap.size w X5 ∧ X5.heap[w.heap.size]? = some (.cells (vrow 266 s.at) 44) ∧ X5.heap[w.heap.size + 1]? = some (.cells (vrow 2 (spAt x y)) 46) := ⟨hH.1.trans (hb.mono hH.1.size), row_next hb hH.2.1, row_next hb hH.2.2⟩
          clear hb
          refine hK.out _ _ hH (fun hH => ?_)
          clear hK K
          (try simp only [Act.put, List.setIfInBounds_toArray, List.set_cons_succ, List.set_cons_zero])
          refine wpAnyH_take (i := 6) (v := (.tuple #[.agg r.row, .int .i64 c])) rfl (by kernel_rfl) (by kernel_rfl) (by kernel_rfl) (fun _ _ _ h => by cases h.1) (.inl ⟨by rfl, fun w _ => by go_simp⟩) hH ?_
          (try simp only [Act.put, List.setIfInBounds_toArray, List.set_cons_succ, List.set_cons_zero])
          refine wpAnyH_take (i := 7) (v := (.agg r.row)) rfl (by kernel_rfl) (by kernel_rfl) (by kernel_rfl) (fun _ _ _ h => by cases h.1) (.inl ⟨by rfl, fun w _ => by go_simp⟩) hH ?_
          (try simp only [Act.put, List.setIfInBounds_toArray, List.set_cons_succ, List.set_cons_zero])
          refine wpAnyH_take (i := 8) (v := (.int .i64 c)) rfl (by kernel_rfl) (by kernel_rfl) (by kernel_rfl) (fun _ _ _ h => by cases h.1) (.inl ⟨by rfl, fun w _ => by go_simp⟩) hH ?_
          (try simp only [Act.put, List.setIfInBounds_toArray, List.set_cons_succ, List.set_cons_zero])
          refine wpAnyH_ready (rs := [9]) (by kernel_rfl) (by simp) (AllReadyH.cons rfl (fun K hK => ?_) AllReadyH.nil)
          rw [if_pos (by rfl)]
          go_simp
          have V := heap_at X5 (.cells Sh.zero.row 47) _ rfl
          have n0 := row_lt hH.2.1
          have n1 := row_lt hH.2.2
          replace hH : Below w.heap.size w (X5.alloc (.cells Sh.zero.row 47)) ∧ (X5.alloc (.cells Sh.zero.row 47)).heap[w.heap.size]? = some (.cells (vrow 266 s.at) 44) ∧ (X5.alloc (.cells Sh.zero.row 47)).heap[w.heap.size + 1]? = some (.cells (vrow 2 (spAt x y)) 46) := ⟨hH.1.alloc hH.1.size _, heap_past _ _ _ _ (row_lt hH.2.1) hH.2.1, heap_past _ _ _ _ (row_lt hH.2.2) hH.2.2⟩
          refine hK.out _ _ hH (fun hH => ?_)
          clear hK K
          (try simp only [Act.put, List.setIfInBounds_toArray, List.set_cons_succ, List.set_cons_zero])
          generalize hb7 : X5.heap.size = b5 at V n0 n1 ⊢
          generalize X5.alloc _ = Y7 at hH V ⊢
          clear hb7
          refine wpAnyH_ready (rs := [10]) (by kernel_rfl) (by simp) (AllReadyH.cons rfl (fun K hK => ?_) AllReadyH.nil)
          rw [if_pos (by rfl)]
          unfold Oper.wp
          rw [run_storemid 47 (.tmp 7) (.tmp 18) rfl b5 0 rfl 266 266 Sh.zero.at r.at rfl 47 size_sheet V (by omega) (fun i _ => r.one i), vrow_over_all, Oper.upon_skip]
          have V2 := row_set V (vrow 266 r.at)
          have hH2 : Below w.heap.size w (Y7.setRow b5 (vrow 266 r.at)) ∧ (Y7.setRow b5 (vrow 266 r.at)).heap[w.heap.size]? = some (.cells (vrow 266 s.at) 44) ∧ (Y7.setRow b5 (vrow 266 r.at)).heap[w.heap.size + 1]? = some (.cells (vrow 2 (spAt x y)) 46) := ⟨Below_setRow hH.1 (by omega) _, row_set' (by omega) hH.2.1 _, row_set' (by omega) hH.2.2 _⟩
          refine hK.out _ _ hH2 (fun hH => ?_)
          clear hK K hH2
          (try simp only [Act.put, List.setIfInBounds_toArray, List.set_cons_succ, List.set_cons_zero])
          refine wpAnyH_take (i := 11) (v := (.int .i64 c)) rfl (by kernel_rfl) (by kernel_rfl) (by kernel_rfl) (fun _ _ _ h => by cases h.1) (.inl ⟨by rfl, fun w _ => by go_simp⟩) hH ?_
          (try simp only [Act.put, List.setIfInBounds_toArray, List.set_cons_succ, List.set_cons_zero])
          refine wpAnyH_done (by kernel_rfl) ?_ _
          exact ⟨rfl, b5, rfl, hH, V2⟩
        · rw [if_pos (by rfl)]
          go_simp
          have V := heap_at X3 (.cells Sh.zero.row 47) _ rfl
          have n0 := row_lt hH.2.1
          have n1 := row_lt hH.2.2
          replace hH : Below w.heap.size w (X3.alloc (.cells Sh.zero.row 47)) ∧ (X3.alloc (.cells Sh.zero.row 47)).heap[w.heap.size]? = some (.cells (vrow 266 s.at) 44) ∧ (X3.alloc (.cells Sh.zero.row 47)).heap[w.heap.size + 1]? = some (.cells (vrow 2 (spAt x y)) 46) := ⟨hH.1.alloc hH.1.size _, heap_past _ _ _ _ (row_lt hH.2.1) hH.2.1, heap_past _ _ _ _ (row_lt hH.2.2) hH.2.2⟩
          refine hK.out _ _ hH (fun hH => ?_)
          clear hK K
          (try simp only [Act.put, List.setIfInBounds_toArray, List.set_cons_succ, List.set_cons_zero])
          generalize hb7 : X3.heap.size = b5 at V n0 n1 ⊢
          generalize X3.alloc _ = Y6 at hH V ⊢
          clear hb7
          refine wpAnyH_ready (rs := [5]) (by kernel_rfl) (by simp) (AllReadyH.cons rfl (fun K hK => ?_) AllReadyH.nil)
          rw [if_pos (by rfl)]
          go_simp
          go_at_call 23
          refine (HS.out _).mono ?_
          rintro o X8 ⟨rfl, hb⟩
          replace hH : Below w.heap.size w X8 ∧ X8.heap[w.heap.size]? = some (.cells (vrow 266 s.at) 44) ∧ X8.heap[w.heap.size + 1]? = some (.cells (vrow 2 (spAt x y)) 46) := ⟨hH.1.trans (hb.mono hH.1.size), row_next hb hH.2.1, row_next hb hH.2.2⟩
          replace V := row_next hb V
          clear hb
          refine hK.out _ _ hH (fun hH => ?_)
          clear hK K
          (try simp only [Act.put, List.setIfInBounds_toArray, List.set_cons_succ, List.set_cons_zero])
          refine wpAnyH_take (i := 6) (v := (.tuple #[.agg r.row, .int .i64 c])) rfl (by kernel_rfl) (by kernel_rfl) (by kernel_rfl) (fun _ _ _ h => by cases h.1) (.inl ⟨by rfl, fun w _ => by go_simp⟩) hH ?_
          (try simp only [Act.put, List.setIfInBounds_toArray, List.set_cons_succ, List.set_cons_zero])
          refine wpAnyH_take (i := 7) (v := (.agg r.row)) rfl (by kernel_rfl) (by kernel_rfl) (by kernel_rfl) (fun _ _ _ h => by cases h.1) (.inl ⟨by rfl, fun w _ => by go_simp⟩) hH ?_
          (try simp only [Act.put, List.setIfInBounds_toArray, List.set_cons_succ, List.set_cons_zero])
          refine wpAnyH_take (i := 8) (v := (.int .i64 c)) rfl (by kernel_rfl) (by kernel_rfl) (by kernel_rfl) (fun _ _ _ h => by cases h.1) (.inl ⟨by rfl, fun w _ => by go_simp⟩) hH ?_
          (try simp only [Act.put, List.setIfInBounds_toArray, List.set_cons_succ, List.set_cons_zero])
          refine wpAnyH_ready (rs := [10]) (by kernel_rfl) (by simp) (AllReadyH.cons rfl (fun K hK => ?_) AllReadyH.nil)
          rw [if_pos (by rfl)]
          unfold Oper.wp
          rw [run_storemid 47 (.tmp 7) (.tmp 18) rfl b5 0 rfl 266 266 Sh.zero.at r.at rfl 47 size_sheet V (by omega) (fun i _ => r.one i), vrow_over_all, Oper.upon_skip]
          have V2 := row_set V (vrow 266 r.at)
          have hH2 : Below w.heap.size w (X8.setRow b5 (vrow 266 r.at)) ∧ (X8.setRow b5 (vrow 266 r.at)).heap[w.heap.size]? = some (.cells (vrow 266 s.at) 44) ∧ (X8.setRow b5 (vrow 266 r.at)).heap[w.heap.size + 1]? = some (.cells (vrow 2 (spAt x y)) 46) := ⟨Below_setRow hH.1 (by omega) _, row_set' (by omega) hH.2.1 _, row_set' (by omega) hH.2.2 _⟩
          refine hK.out _ _ hH2 (fun hH => ?_)
          clear hK K hH2
          (try simp only [Act.put, List.setIfInBounds_toArray, List.set_cons_succ, List.set_cons_zero])
          refine wpAnyH_take (i := 11) (v := (.int .i64 c)) rfl (by kernel_rfl) (by kernel_rfl) (by kernel_rfl) (fun _ _ _ h => by cases h.1) (.inl ⟨by rfl, fun w _ => by go_simp⟩) hH ?_
          (try simp only [Act.put, List.setIfInBounds_toArray, List.set_cons_succ, List.set_cons_zero])
          refine wpAnyH_done (by kernel_rfl) ?_ _
          exact ⟨rfl, b5, rfl, hH, V2⟩
      · rw [if_pos (by rfl)]
        go_simp
        have V := heap_at X1 (.cells Sh.zero.row 47) _ rfl
        have n0 := row_lt hH.2.1
        have n1 := row_lt hH.2.2
        replace hH : Below w.heap.size w (X1.alloc (.cells Sh.zero.row 47)) ∧ (X1.alloc (.cells Sh.zero.row 47)).heap[w.heap.size]? = some (.cells (vrow 266 s.at) 44) ∧ (X1.alloc (.cells Sh.zero.row 47)).heap[w.heap.size + 1]? = some (.cells (vrow 2 (spAt x y)) 46) := ⟨hH.1.alloc hH.1.size _, heap_past _ _ _ _ (row_lt hH.2.1) hH.2.1, heap_past _ _ _ _ (row_lt hH.2.2) hH.2.2⟩
        refine hK.out _ _ hH (fun hH => ?_)
        clear hK K
        (try simp only [Act.put, List.setIfInBounds_toArray, List.set_cons_succ, List.set_cons_zero])
        generalize hb7 : X1.heap.size = b5 at V n0 n1 ⊢
        generalize X1.alloc _ = Y4 at hH V ⊢
        clear hb7
        refine wpAnyH_ready (rs := [3]) (by kernel_rfl) (by simp) (AllReadyH.cons rfl (fun K hK => ?_) AllReadyH.nil)
        rw [if_pos (by rfl)]
        go_simp
        go_at_call 20
        refine (HT1.out _).mono ?_
        rintro o X9 ⟨rfl, hb⟩
        replace hH : Below w.heap.size w X9 ∧ X9.heap[w.heap.size]? = some (.cells (vrow 266 s.at) 44) ∧ X9.heap[w.heap.size + 1]? = some (.cells (vrow 2 (spAt x y)) 46) := ⟨hH.1.trans (hb.mono hH.1.size), row_next hb hH.2.1, row_next hb hH.2.2⟩
        replace V := row_next hb V
        clear hb
        refine hK.out _ _ hH (fun hH => ?_)
        clear hK K
        (try simp only [Act.put, List.setIfInBounds_toArray, List.set_cons_succ, List.set_cons_zero])
        refine wpAnyH_ready (rs := [5]) (by kernel_rfl) (by simp) (AllReadyH.cons rfl (fun K hK => ?_) AllReadyH.nil)
        rw [if_pos (by rfl)]
        go_simp
        go_at_call 23
        refine (HS.out _).mono ?_
        rintro o X10 ⟨rfl, hb⟩
        replace hH : Below w.heap.size w X10 ∧ X10.heap[w.heap.size]? = some (.cells (vrow 266 s.at) 44) ∧ X10.heap[w.heap.size + 1]? = some (.cells (vrow 2 (spAt x y)) 46) := ⟨hH.1.trans (hb.mono hH.1.size), row_next hb hH.2.1, row_next hb hH.2.2⟩
        replace V := row_next hb V
        clear hb
        refine hK.out _ _ hH (fun hH => ?_)
        clear hK K
        (try simp only [Act.put, List.setIfInBounds_toArray, List.set_cons_succ, List.set_cons_zero])
        refine wpAnyH_take (i := 6) (v := (.tuple #[.agg r.row, .int .i64 c])) rfl (by kernel_rfl) (by kernel_rfl) (by kernel_rfl) (fun _ _ _ h => by cases h.1) (.inl ⟨by rfl, fun w _ => by go_simp⟩) hH ?_
        (try simp only [Act.put, List.setIfInBounds_toArray, List.set_cons_succ, List.set_cons_zero])
        refine wpAnyH_take (i := 7) (v := (.agg r.row)) rfl (by kernel_rfl) (by kernel_rfl) (by kernel_rfl) (fun _ _ _ h => by cases h.1) (.inl ⟨by rfl, fun w _ => by go_simp⟩) hH ?_
        (try simp only [Act.put, List.setIfInBounds_toArray, List.set_cons_succ, List.set_cons_zero])
        refine wpAnyH_take (i := 8) (v := (.int .i64 c)) rfl (by kernel_rfl) (by kernel_rfl) (by kernel_rfl) (fun _ _ _ h => by cases h.1) (.inl ⟨by rfl, fun w _ => by go_simp⟩) hH ?_
        (try simp only [Act.put, List.setIfInBounds_toArray, List.set_cons_succ, List.set_cons_zero])
        refine wpAnyH_ready (rs := [10]) (by kernel_rfl) (by simp) (AllReadyH.cons rfl (fun K hK => ?_) AllReadyH.nil)
        rw [if_pos (by rfl)]
        unfold Oper.wp
        rw [run_storemid 47 (.tmp 7) (.tmp 18) rfl b5 0 rfl 266 266 Sh.zero.at r.at rfl 47 size_sheet V (by omega) (fun i _ => r.one i), vrow_over_all, Oper.upon_skip]
        have V2 := row_set V (vrow 266 r.at)
        have hH2 : Below w.heap.size w (X10.setRow b5 (vrow 266 r.at)) ∧ (X10.setRow b5 (vrow 266 r.at)).heap[w.heap.size]? = some (.cells (vrow 266 s.at) 44) ∧ (X10.setRow b5 (vrow 266 r.at)).heap[w.heap.size + 1]? = some (.cells (vrow 2 (spAt x y)) 46) := ⟨Below_setRow hH.1 (by omega) _, row_set' (by omega) hH.2.1 _, row_set' (by omega) hH.2.2 _⟩
        refine hK.out _ _ hH2 (fun hH => ?_)
        clear hK K hH2
        (try simp only [Act.put, List.setIfInBounds_toArray, List.set_cons_succ, List.set_cons_zero])
        refine wpAnyH_take (i := 11) (v := (.int .i64 c)) rfl (by kernel_rfl) (by kernel_rfl) (by kernel_rfl) (fun _ _ _ h => by cases h.1) (.inl ⟨by rfl, fun w _ => by go_simp⟩) hH ?_
        (try simp only [Act.put, List.setIfInBounds_toArray, List.set_cons_succ, List.set_cons_zero])
        refine wpAnyH_done (by kernel_rfl) ?_ _
        exact ⟨rfl, b5, rfl, hH, V2⟩
    · rw [if_pos (by rfl)]
      go_simp
      have V := heap_at W (.cells Sh.zero.row 47) _ rfl
      have n0 := row_lt hH.2.1
      have n1 := row_lt hH.2.2
      replace hH : Below w.heap.size w (W.alloc (.cells Sh.zero.row 47)) ∧ (W.alloc (.cells Sh.zero.row 47)).heap[w.heap.size]? = some (.cells (vrow 266 s.at) 44) ∧ (W.alloc (.cells Sh.zero.row 47)).heap[w.heap.size + 1]? = some (.cells (vrow 2 (spAt x y)) 46) := ⟨hH.1.alloc hH.1.size _, heap_past _ _ _ _ (row_lt hH.2.1) hH.2.1, heap_past _ _ _ _ (row_lt hH.2.2) hH.2.2⟩
      refine hK.out _ _ hH (fun hH => ?_)
      clear hK K
      (try simp only [Act.put, List.setIfInBounds_toArray, List.set_cons_succ, List.set_cons_zero])
      generalize hb7 : W.heap.size = b5 at V n0 n1 ⊢
      generalize W.alloc _ = Y2 at hH V ⊢
      clear hb7
      refine wpAnyH_ready (rs := [1]) (by kernel_rfl) (by simp) (AllReadyH.cons rfl (fun K hK => ?_) AllReadyH.nil)
      rw [if_pos (by rfl)]
      go_simp
      go_at_call 19
      refine (HT0.out _).mono ?_
      rintro o X11 ⟨rfl, hb⟩
      replace hH : Below w.heap.size w X11 ∧ X11.heap[w.heap.size]? = some (.cells (vrow 266 s.at) 44) ∧ X11.heap[w.heap.size + 1]? = some (.cells (vrow 2 (spAt x y)) 46) := ⟨hH.1.trans (hb.mono hH.1.size), row_next hb hH.2.1, row_next hb hH.2.2⟩
      replace V := row_next hb V
      clear hb
      refine hK.out _ _ hH (fun hH => ?_)
      clear hK K
      (try simp only [Act.put, List.setIfInBounds_toArray, List.set_cons_succ, List.set_cons_zero])
      refine wpAnyH_ready (rs := [3]) (by kernel_rfl) (by simp) (AllReadyH.cons rfl (fun K hK => ?_) AllReadyH.nil)
      rw [if_pos (by rfl)]
      go_simp
      go_at_call 20
      refine (HT1.out _).mono ?_
      rintro o X12 ⟨rfl, hb⟩
      replace hH : Below w.heap.size w X12 ∧ X12.heap[w.heap.size]? = some (.cells (vrow 266 s.at) 44) ∧ X12.heap[w.heap.size + 1]? = some (.cells (vrow 2 (spAt x y)) 46) := ⟨hH.1.trans (hb.mono hH.1.size), row_next hb hH.2.1, row_next hb hH.2.2⟩
      replace V := row_next hb V
      clear hb
      refine hK.out _ _ hH (fun hH => ?_)
      clear hK K
      (try simp only [Act.put, List.setIfInBounds_toArray, List.set_cons_succ, List.set_cons_zero])
      refine wpAnyH_ready (rs := [5]) (by kernel_rfl) (by simp) (AllReadyH.cons rfl (fun K hK => ?_) AllReadyH.nil)
      rw [if_pos (by rfl)]
      go_simp
      go_at_call 23
      refine (HS.out _).mono ?_
      rintro o X13 ⟨rfl, hb⟩
      replace hH : Below w.heap.size w X13 ∧ X13.heap[w.heap.size]? = some (.cells (vrow 266 s.at) 44) ∧ X13.heap[w.heap.size + 1]? = some (.cells (vrow 2 (spAt x y)) 46) := ⟨hH.1.trans (hb.mono hH.1.size), row_next hb hH.2.1, row_next hb hH.2.2⟩
      replace V := row_next hb V
      clear hb
      refine hK.out _ _ hH (fun hH => ?_)
      clear hK K
      (try simp only [Act.put, List.setIfInBounds_toArray, List.set_cons_succ, List.set_cons_zero])
      refine wpAnyH_take (i := 6) (v := (.tuple #[.agg r.row, .int .i64 c])) rfl (by kernel_rfl) (by kernel_rfl) (by kernel_rfl) (fun _ _ _ h => by cases h.1) (.inl ⟨by rfl, fun w _ => by go_simp⟩) hH ?_
      (try simp only [Act.put, List.setIfInBounds_toArray, List.set_cons_succ, List.set_cons_zero])
      refine wpAnyH_take (i := 7) (v := (.agg r.row)) rfl (by kernel_rfl) (by kernel_rfl) (by kernel_rfl) (fun _ _ _ h => by cases h.1) (.inl ⟨by rfl, fun w _ => by go_simp⟩) hH ?_
      (try simp only [Act.put, List.setIfInBounds_toArray, List.set_cons_succ, List.set_cons_zero])
      refine wpAnyH_take (i := 8) (v := (.int .i64 c)) rfl (by kernel_rfl) (by kernel_rfl) (by kernel_rfl) (fun _ _ _ h => by cases h.1) (.inl ⟨by rfl, fun w _ => by go_simp⟩) hH ?_
      (try simp only [Act.put, List.setIfInBounds_toArray, List.set_cons_succ, List.set_cons_zero])
      refine wpAnyH_ready (rs := [10]) (by kernel_rfl) (by simp) (AllReadyH.cons rfl (fun K hK => ?_) AllReadyH.nil)
      rw [if_pos (by rfl)]
      unfold Oper.wp
      rw [run_storemid 47 (.tmp 7) (.tmp 18) rfl b5 0 rfl 266 266 Sh.zero.at r.at rfl 47 size_sheet V (by omega) (fun i _ => r.one i), vrow_over_all, Oper.upon_skip]
      have V2 := row_set V (vrow 266 r.at)
      have hH2 : Below w.heap.size w (X13.setRow b5 (vrow 266 r.at)) ∧ (X13.setRow b5 (vrow 266 r.at)).heap[w.heap.size]? = some (.cells (vrow 266 s.at) 44) ∧ (X13.setRow b5 (vrow 266 r.at)).heap[w.heap.size + 1]? = some (.cells (vrow 2 (spAt x y)) 46) := ⟨Below_setRow hH.1 (by omega) _, row_set' (by omega) hH.2.1 _, row_set' (by omega) hH.2.2 _⟩
      refine hK.out _ _ hH2 (fun hH => ?_)
      clear hK K hH2
      (try simp only [Act.put, List.setIfInBounds_toArray, List.set_cons_succ, List.set_cons_zero])
      refine wpAnyH_take (i := 11) (v := (.int .i64 c)) rfl (by kernel_rfl) (by kernel_rfl) (by kernel_rfl) (fun _ _ _ h => by cases h.1) (.inl ⟨by rfl, fun w _ => by go_simp⟩) hH ?_
      (try simp only [Act.put, List.setIfInBounds_toArray, List.set_cons_succ, List.set_cons_zero])
      refine wpAnyH_done (by kernel_rfl) ?_ _
      exact ⟨rfl, b5, rfl, hH, V2⟩
  · rintro e1 a1 W1 ⟨rfl, b5, rfl, ⟨hB, P0, P1⟩, V5⟩
    replace hB := Go.Lib.hid hB; replace P0 := Go.Lib.hid P0; replace P1 := Go.Lib.hid P1; replace V5 := Go.Lib.hid V5
    go_wp2
    refine Code.wp_mono (Q := fun e a' W' => e = .normal ∧ ∃ b7, a' = { tmps := #[.agg s.row, .agg (vrow 2 (spAt x y)), .int .i64 m, .pointer (some ⟨w.heap.size, 0, none⟩), .pointer (some ⟨w.heap.size + 1, 0, none⟩), undef, .bool false, .pointer (some ⟨b5, 0, none⟩), .int .i64 c, .pointer (some ⟨b7, 0, none⟩), .int .i64 c, .tuple #[.agg r.row, .int .i64 c], .agg s.row, .agg s.row, .agg (vrow 2 (spAt x y)), .agg (vrow 2 (spAt x y)), .int .i64 m, .tuple #[.agg r.row, .int .i64 c], .agg r.row, .int .i64 c, .tuple #[.agg r.row, .int .i64 c], .agg s.row, .agg s.row, .agg (vrow 2 (spAt x y)), .agg (vrow 2 (spAt x y)), .int .i64 m, .tuple #[.agg r.row, .int .i64 c], .agg r.row, .int .i64 c, undef, undef, undef, undef, undef, undef, undef, undef, undef], defers := [] } ∧ (Below w.heap.size w W' ∧ W'.heap[w.heap.size]? = some (.cells (vrow 266 s.at) 44) ∧ W'.heap[w.heap.size + 1]? = some (.cells (vrow 2 (spAt x y)) 46) ∧ W'.heap[b5]? = some (.cells (vrow 266 r.at) 47)) ∧ W'.heap[b7]? = some (.cells (vrow 266 r.at) 47)) ?_ ?_
    rotate_left
    · refine wp_region_held_drew (S := fun W' => Below w.heap.size w W' ∧ W'.heap[w.heap.size]? = some (.cells (vrow 266 s.at) 44) ∧ W'.heap[w.heap.size + 1]? = some (.cells (vrow 2 (spAt x y)) 46) ∧ W'.heap[b5]? = some (.cells (vrow 266 r.at) 47)) (by kernel_rfl) ⟨hB.out.drew, P0.out, P1.out, V5.out⟩ (fun hH => ?_)
      clear hB P0 P1 V5
      generalize World.drew _ = W at hH ⊢
      refine wpAnyH_take (i := 0) (v := (.agg (vrow 266 s.at))) rfl (by kernel_rfl) (by kernel_rfl) (by kernel_rfl) (fun _ _ _ h => by cases h.1) (yields_row (by rfl) 44 _ rfl (w.heap.size) rfl 266 s.at 44 _ Tryd.underlying44 rfl size_lsheet (fun _ h => h.2.1)) hH ?_
      (try simp only [Act.put, List.setIfInBounds_toArray, List.set_cons_succ, List.set_cons_zero])
      refine wpAnyH_take (i := 2) (v := (.agg (vrow 2 (spAt x y)))) rfl (by kernel_rfl) (by kernel_rfl) (by kernel_rfl) (fun _ _ _ h => by cases h.1) (yields_row (by rfl) 46 _ rfl (w.heap.size + 1) rfl 2 (spAt x y) 46 _ Tryd.underlying46 rfl size_lspot (fun _ h => h.2.2.1)) hH ?_
      (try simp only [Act.put, List.setIfInBounds_toArray, List.set_cons_succ, List.set_cons_zero])
      refine wpAnyH_take (i := 4) (v := (.int .i64 m)) rfl (by kernel_rfl) (by kernel_rfl) (by kernel_rfl) (fun _ _ _ h => by cases h.1) (.inl ⟨by rfl, fun w _ => by go_simp⟩) hH ?_
      (try simp only [Act.put, List.setIfInBounds_toArray, List.set_cons_succ, List.set_cons_zero])
      refine wpAnyH_ready (rs := [1, 9]) (by kernel_rfl) (by simp) (AllReadyH.cons rfl (fun K hK => ?_) (AllReadyH.cons rfl (fun K hK => ?_) AllReadyH.nil))
      · rw [if_pos (by rfl)]
        go_simp
        go_at_call 19
        refine (HT0.out _).mono ?_
        rintro o X14 ⟨rfl, hb⟩
        replace hH : Below w.heap.size w X14 ∧ X14.heap[w.heap.size]? = some (.cells (vrow 266 s.at) 44) ∧ X14.heap[w.heap.size + 1]? = some (.cells (vrow 2 (spAt x y)) 46) ∧ X14.heap[b5]? = some (.cells (vrow 266 r.at) 47) := ⟨hH.1.trans (hb.mono hH.1.size), row_next hb hH.2.1, row_next hb hH.2.2.1, row_next hb hH.2.2.2⟩
        clear hb
        refine hK.out _ _ hH (fun hH => ?_)
        clear hK K
        (try simp only [Act.put, List.setIfInBounds_toArray, List.set_cons_succ, List.set_cons_zero])
        refine wpAnyH_ready (rs := [3, 9]) (by kernel_rfl) (by simp) (AllReadyH.cons rfl (fun K hK => ?_) (AllReadyH.cons rfl (fun K hK => ?_) AllReadyH.nil))
        · rw [if_pos (by rfl)]
          go_simp
          go_at_call 20
          refine (HT1.out _).mono ?_
          rintro o X16 ⟨rfl, hb⟩
          replace hH : Below w.heap.size w X16 ∧ X16.heap[w.heap.size]? = some (.cells (vrow 266 s.at) 44) ∧ X16.heap[w.heap.size + 1]? = some (.cells (vrow 2 (spAt x y)) 46) ∧ X16.heap[b5]? = some (.cells (vrow 266 r.at) 47) := ⟨hH.1.trans (hb.mono hH.1.size), row_next hb hH.2.1, row_next hb hH.2.2.1, row_next hb hH.2.2.2⟩
          clear hb
          refine hK.out _ _ hH (fun hH => ?_)
          clear hK K
          (try simp only [Act.put, List.setIfInBounds_toArray, List.set_cons_succ, List.set_cons_zero])
          refine wpAnyH_ready (rs := [5, 9]) (by kernel_rfl) (by simp) (AllReadyH.cons rfl (fun K hK => ?_) (AllReadyH.cons rfl (fun K hK => ?_) AllReadyH.nil))
          · rw [if_pos (by rfl)]
            go_simp
            go_at_call 24
            refine (HI.out _ (hE.next hH.1)).mono ?_
            rintro o X18 ⟨rfl, hb⟩
            replace hH : Below w.heap.size w X18 ∧ X18.heap[w.heap.size]? = some (.cells (vrow 266 s.at) 44) ∧ X18.heap[w.heap.size + 1]? = some (.cells (vrow 2 (spAt x y)) 46) ∧ X18.heap[b5]? = some (.cells (vrow 266 r.at) 47) := ⟨hH.1.trans (hb.mono hH.1.size), row_next hb hH.2.1, row_next hb hH.2.2.1, row_next hb hH.2.2.2⟩
            clear hb
            refine hK.out _ _ hH (fun hH => ?_)
            clear hK K
            (try simp only [Act.put, List.setIfInBounds_toArray, List.set_cons_succ, List.set_cons_zero])
            refine wpAnyH_take (i := 6) (v := (.tuple #[.agg r.row, .int .i64 c])) rfl (by kernel_rfl) (by kernel_rfl) (by kernel_rfl) (fun _ _ _ h => by cases h.1) (.inl ⟨by rfl, fun w _ => by go_simp⟩) hH ?_
            (try simp only [Act.put, List.setIfInBounds_toArray, List.set_cons_succ, List.set_cons_zero])
            refine wpAnyH_take (i := 7) (v := (.agg r.row)) rfl (by kernel_rfl) (by kernel_rfl) (by kernel_rfl) (fun _ _ _ h => by cases h.1) (.inl ⟨by rfl, fun w _ => by go_simp⟩) hH ?_
            (try simp only [Act.put, List.setIfInBounds_toArray, List.set_cons_succ, List.set_cons_zero])
            refine wpAnyH_take (i := 8) (v := (.int .i64 c)) rfl (by kernel_rfl) (by kernel_rfl) (by kernel_rfl) (fun _ _ _ h => by cases h.1) (.inl ⟨by rfl, fun w _ => by go_simp⟩) hH ?_
            (try simp only [Act.put, List.setIfInBounds_toArray, List.set_cons_succ, List.set_cons_zero])
            refine wpAnyH_ready (rs := [9]) (by kernel_rfl) (by simp) (AllReadyH.cons rfl (fun K hK => ?_) AllReadyH.nil)
            rw [if_pos (by rfl)]
            go_simp
            have V := heap_at X18 (.cells Sh.zero.row 47) _ rfl
            have n0 := row_lt hH.2.1
            have n1 := row_lt hH.2.2.1
            have n2 := row_lt hH.2.2.2
            replace hH : Below w.heap.size w (X18.alloc (.cells Sh.zero.row 47)) ∧ (X18.alloc (.cells Sh.zero.row 47)).heap[w.heap.size]? = some (.cells (vrow 266 s.at) 44) ∧ (X18.alloc (.cells Sh.zero.row 47)).heap[w.heap.size + 1]? = some (.cells (vrow 2 (spAt x y)) 46) ∧ (X18.alloc (.cells Sh.zero.row 47)).heap[b5]? = some (.cells (vrow 266 r.at) 47) := ⟨hH.1.alloc hH.1.size _, heap_past _ _ _ _ (row_lt hH.2.1) hH.2.1, heap_past _ _ _ _ (row_lt hH.2.2.1) hH.2.2.1, heap_past _ _ _ _ (row_lt hH.2.2.2) hH.2.2.2⟩
            refine hK.out _ _ hH (fun hH => ?_)
            clear hK K
            (try simp only [Act.put, List.setIfInBounds_toArray, List.set_cons_succ, List.set_cons_zero])
            generalize hb7 : X18.heap.size = b7 at V n0 n1 n2 ⊢
            generalize X18.alloc _ = Y20 at hH V ⊢
            clear hb7
            refine wpAnyH_ready (rs := [10]) (by kernel_rfl) (by simp) (AllReadyH.cons rfl (fun K hK => ?_) AllReadyH.nil)
            rw [if_pos (by rfl)]
            unfold Oper.wp
            rw [run_storemid 47 (.tmp 9) (.tmp 27) rfl b7 0 rfl 266 266 Sh.zero.at r.at rfl 47 size_sheet V (by omega) (fun i _ => r.one i), vrow_over_all, Oper.upon_skip]
            have V2 := row_set V (vrow 266 r.at)
            have hH2 : Below w.heap.size w (Y20.setRow b7 (vrow 266 r.at)) ∧ (Y20.setRow b7 (vrow 266 r.at)).heap[w.heap.size]? = some (.cells (vrow 266 s.at) 44) ∧ (Y20.setRow b7 (vrow 266 r.at)).heap[w.heap.size + 1]? = some (.cells (vrow 2 (spAt x y)) 46) ∧ (Y20.setRow b7 (vrow 266 r.at)).heap[b5]? = some (.cells (vrow 266 r.at) 47) := ⟨Below_setRow hH.1 (by omega) _, row_set' (by omega) hH.2.1 _, row_set' (by omega) hH.2.2.1 _, row_set' (by omega) hH.2.2.2 _⟩
            refine hK.out _ _ hH2 (fun hH => ?_)
            clear hK K hH2
            (try simp only [Act.put, List.setIfInBounds_toArray, List.set_cons_succ, List.set_cons_zero])
            refine wpAnyH_take (i := 11) (v := (.int .i64 c)) rfl (by kernel_rfl) (by kernel_rfl) (by kernel_rfl) (fun _ _ _ h => by cases h.1) (.inl ⟨by rfl, fun w _ => by go_simp⟩) hH ?_
            (try simp only [Act.put, List.setIfInBounds_toArray, List.set_cons_succ, List.set_cons_zero])
            refine wpAnyH_done (by kernel_rfl) ?_ _
            exact ⟨rfl, b7, rfl, hH, V2⟩
          · rw [if_pos (by rfl)]
            go_simp
            have V := heap_at X16 (.cells Sh.zero.row 47) _ rfl
            have n0 := row_lt hH.2.1
            have n1 := row_lt hH.2.2.1
            have n2 := row_lt hH.2.2.2
            replace hH : Below w.heap.size w (X16.alloc (.cells Sh.zero.row 47)) ∧ (X16.alloc (.cells Sh.zero.row 47)).heap[w.heap.size]? = some (.cells (vrow 266 s.at) 44) ∧ (X16.alloc (.cells Sh.zero.row 47)).heap[w.heap.size + 1]? = some (.cells (vrow 2 (spAt x y)) 46) ∧ (X16.alloc (.cells Sh.zero.row 47)).heap[b5]? = some (.cells (vrow 266 r.at) 47) := ⟨hH.1.alloc hH.1.size _, heap_past _ _ _ _ (row_lt hH.2.1) hH.2.1, heap_past _ _ _ _ (row_lt hH.2.2.1) hH.2.2.1, heap_past _ _ _ _ (row_lt hH.2.2.2) hH.2.2.2⟩
            refine hK.out _ _ hH (fun hH => ?_)
            clear hK K
            (try simp only [Act.put, List.setIfInBounds_toArray, List.set_cons_succ, List.set_cons_zero])
            generalize hb7 : X16.heap.size = b7 at V n0 n1 n2 ⊢
            generalize X16.alloc _ = Y19 at hH V ⊢
            clear hb7
            refine wpAnyH_ready (rs := [5]) (by kernel_rfl) (by simp) (AllReadyH.cons rfl (fun K hK => ?_) AllReadyH.nil)
            rw [if_pos (by rfl)]
            go_simp
            go_at_call 24
            refine (HI.out _ (hE.next hH.1)).mono ?_
            rintro o X21 ⟨rfl, hb⟩
            replace hH : Below w.heap.size w X21 ∧ X21.heap[w.heap.size]? = some (.cells (vrow 266 s.at) 44) ∧ X21.heap[w.heap.size + 1]? = some (.cells (vrow 2 (spAt x y)) 46) ∧ X21.heap[b5]? = some (.cells (vrow 266 r.at) 47) := ⟨hH.1.trans (hb.mono hH.1.size), row_next hb hH.2.1, row_next hb hH.2.2.1, row_next hb hH.2.2.2⟩
            replace V := row_next hb V
            clear hb
            refine hK.out _ _ hH (fun hH => ?_)
            clear hK K
            (try simp only [Act.put, List.setIfInBounds_toArray, List.set_cons_succ, List.set_cons_zero])
            refine wpAnyH_take (i := 6) (v := (.tuple #[.agg r.row, .int .i64 c])) rfl (by kernel_rfl) (by kernel_rfl) (by kernel_rfl) (fun _ _ _ h => by cases h.1) (.inl ⟨by rfl, fun w _ => by go_simp⟩) hH ?_
            (try simp only [Act.put, List.setIfInBounds_toArray, List.set_cons_succ, List.set_cons_zero])
            refine wpAnyH_take (i := 7) (v := (.agg r.row)) rfl (by kernel_rfl) (by kernel_rfl) (by kernel_rfl) (fun _ _ _ h => by cases h.1) (.inl ⟨by rfl, fun w _ => by go_simp⟩) hH ?_
            (try simp only [Act.put, List.setIfInBounds_toArray, List.set_cons_succ, List.set_cons_zero])
            refine wpAnyH_take (i := 8) (v := (.int .i64 c)) rfl (by kernel_rfl) (by kernel_rfl) (by kernel_rfl) (fun _ _ _ h => by cases h.1) (.inl ⟨by rfl, fun w _ => by go_simp⟩) hH ?_
            (try simp only [Act.put, List.setIfInBounds_toArray, List.set_cons_succ, List.set_cons_zero])
            refine wpAnyH_ready (rs := [10]) (by kernel_rfl) (by simp) (AllReadyH.cons rfl (fun K hK => ?_) AllReadyH.nil)
            rw [if_pos (by rfl)]
            unfold Oper.wp
            rw [run_storemid 47 (.tmp 9) (.tmp 27) rfl b7 0 rfl 266 266 Sh.zero.at r.at rfl 47 size_sheet V (by omega) (fun i _ => r.one i), vrow_over_all, Oper.upon_skip]
            have V2 := row_set V (vrow 266 r.at)
            have hH2 : Below w.heap.size w (X21.setRow b7 (vrow 266 r.at)) ∧ (X21.setRow b7 (vrow 266 r.at)).heap[w.heap.size]? = some (.cells (vrow 266 s.at) 44) ∧ (X21.setRow b7 (vrow 266 r.at)).heap[w.heap.size + 1]? = some (.cells (vrow 2 (spAt x y)) 46) ∧ (X21.setRow b7 (vrow 266 r.at)).heap[b5]? = some (.cells (vrow 266 r.at) 47) := ⟨Below_setRow hH.1 (by omega) _, row_set' (by omega) hH.2.1 _, row_set' (by omega) hH.2.2.1 _, row_set' (by omega) hH.2.2.2 _⟩
            refine hK.out _ _ hH2 (fun hH => ?_)
            clear hK K hH2
            (try simp only [Act.put, List.setIfInBounds_toArray, List.set_cons_succ, List.set_cons_zero])
            refine wpAnyH_take (i := 11) (v := (.int .i64 c)) rfl (by kernel_rfl) (by kernel_rfl) (by kernel_rfl) (fun _ _ _ h => by cases h.1) (.inl ⟨by rfl, fun w _ => by go_simp⟩) hH ?_
            (try simp only [Act.put, List.setIfInBounds_toArray, List.set_cons_succ, List.set_cons_zero])
            refine wpAnyH_done (by kernel_rfl) ?_ _
            exact ⟨rfl, b7, rfl, hH, V2⟩
        · rw [if_pos (by rfl)]
          go_simp
          have V := heap_at X14 (.cells Sh.zero.row 47) _ rfl
          have n0 := row_lt hH.2.1
          have n1 := row_lt hH.2.2.1
          have n2 := row_lt hH.2.2.2
          replace hH : Below w.heap.size w (X14.alloc (.cells Sh.zero.row 47)) ∧ (X14.alloc (.cells Sh.zero.row 47)).heap[w.heap.size]? = some (.cells (vrow 266 s.at) 44) ∧ (X14.alloc (.cells Sh.zero.row 47)).heap[w.heap.size + 1]? = some (.cells (vrow 2 (spAt x y)) 46) ∧ (X14.alloc (.cells Sh.zero.row 47)).heap[b5]? = some (.cells (vrow 266 r.at) 47) := ⟨hH.1.alloc hH.1.size _, heap_past _ _ _ _ (row_lt hH.2.1) hH.2.1, heap_past _ _ _ _ (row_lt hH.2.2.1) hH.2.2.1, heap_past _ _ _ _ (row_lt hH.2.2.2) hH.2.2.2⟩
          refine hK.out _ _ hH (fun hH => ?_)
          clear hK K
          (try simp only [Act.put, List.setIfInBounds_toArray, List.set_cons_succ, List.set_cons_zero])
          generalize hb7 : X14.heap.size = b7 at V n0 n1 n2 ⊢
          generalize X14.alloc _ = Y17 at hH V ⊢
          clear hb7
          refine wpAnyH_ready (rs := [3]) (by kernel_rfl) (by simp) (AllReadyH.cons rfl (fun K hK => ?_) AllReadyH.nil)
          rw [if_pos (by rfl)]
          go_simp
          go_at_call 20
          refine (HT1.out _).mono ?_
          rintro o X22 ⟨rfl, hb⟩
          replace hH : Below w.heap.size w X22 ∧ X22.heap[w.heap.size]? = some (.cells (vrow 266 s.at) 44) ∧ X22.heap[w.heap.size + 1]? = some (.cells (vrow 2 (spAt x y)) 46) ∧ X22.heap[b5]? = some (.cells (vrow 266 r.at) 47) := ⟨hH.1.trans (hb.mono hH.1.size), row_next hb hH.2.1, row_next hb hH.2.2.1, row_next hb hH.2.2.2⟩
          replace V := row_next hb V
          clear hb
          refine hK.out _ _ hH (fun hH => ?_)
          clear hK K
          (try simp only [Act.put, List.setIfInBounds_toArray, List.set_cons_succ, List.set_cons_zero])
          refine wpAnyH_ready (rs := [5]) (by kernel_rfl) (by simp) (AllReadyH.cons rfl (fun K hK => ?_) AllReadyH.nil)
          rw [if_pos (by rfl)]
          go_simp
          go_at_call 24
          refine (HI.out _ (hE.next hH.1)).mono ?_
          rintro o X23 ⟨rfl, hb⟩
          replace hH : Below w.heap.size w X23 ∧ X23.heap[w.heap.size]? = some (.cells (vrow 266 s.at) 44) ∧ X23.heap[w.heap.size + 1]? = some (.cells (vrow 2 (spAt x y)) 46) ∧ X23.heap[b5]? = some (.cells (vrow 266 r.at) 47) := ⟨hH.1.trans (hb.mono hH.1.size), row_next hb hH.2.1, row_next hb hH.2.2.1, row_next hb hH.2.2.2⟩
          replace V := row_next hb V
          clear hb
          refine hK.out _ _ hH (fun hH => ?_)
          clear hK K
          (try simp only [Act.put, List.setIfInBounds_toArray, List.set_cons_succ, List.set_cons_zero])
          refine wpAnyH_take (i := 6) (v := (.tuple #[.agg r.row, .int .i64 c])) rfl (by kernel_rfl) (by kernel_rfl) (by kernel_rfl) (fun _ _ _ h => by cases h.1) (.inl ⟨by rfl, fun w _ => by go_simp⟩) hH ?_
          (try simp only [Act.put, List.setIfInBounds_toArray, List.set_cons_succ, List.set_cons_zero])
          refine wpAnyH_take (i := 7) (v := (.agg r.row)) rfl (by kernel_rfl) (by kernel_rfl) (by kernel_rfl) (fun _ _ _ h => by cases h.1) (.inl ⟨by rfl, fun w _ => by go_simp⟩) hH ?_
          (try simp only [Act.put, List.setIfInBounds_toArray, List.set_cons_succ, List.set_cons_zero])
          refine wpAnyH_take (i := 8) (v := (.int .i64 c)) rfl (by kernel_rfl) (by kernel_rfl) (by kernel_rfl) (fun _ _ _ h => by cases h.1) (.inl ⟨by rfl, fun w _ => by go_simp⟩) hH ?_
          (try simp only [Act.put, List.setIfInBounds_toArray, List.set_cons_succ, List.set_cons_zero])
          refine wpAnyH_ready (rs := [10]) (by kernel_rfl) (by simp) (AllReadyH.cons rfl (fun K hK => ?_) AllReadyH.nil)
          rw [if_pos (by rfl)]
          unfold Oper.wp
          rw [run_storemid 47 (.tmp 9) (.tmp 27) rfl b7 0 rfl 266 266 Sh.zero.at r.at rfl 47 size_sheet V (by omega) (fun i _ => r.one i), vrow_over_all, Oper.upon_skip]
          have V2 := row_set V (vrow 266 r.at)
          have hH2 : Below w.heap.size w (X23.setRow b7 (vrow 266 r.at)) ∧ (X23.setRow b7 (vrow 266 r.at)).heap[w.heap.size]? = some (.cells (vrow 266 s.at) 44) ∧ (X23.setRow b7 (vrow 266 r.at)).heap[w.heap.size + 1]? = some (.cells (vrow 2 (spAt x y)) 46) ∧ (X23.setRow b7 (vrow 266 r.at)).heap[b5]? = some (.cells (vrow 266 r.at) 47) := ⟨Below_setRow hH.1 (by omega) _, row_set' (by omega) hH.2.1 _, row_set' (by omega) hH.2.2.1 _, row_set' (by omega) hH.2.2.2 _⟩
          refine hK.out _ _ hH2 (fun hH => ?_)
          clear hK K hH2
          (try simp only [Act.put, List.setIfInBounds_toArray, List.set_cons_succ, List.set_cons_zero])
          refine wpAnyH_take (i := 11) (v := (.int .i64 c)) rfl (by kernel_rfl) (by kernel_rfl) (by kernel_rfl) (fun _ _ _ h => by cases h.1) (.inl ⟨by rfl, fun w _ => by go_simp⟩) hH ?_
          (try simp only [Act.put, List.setIfInBounds_toArray, List.set_cons_succ, List.set_cons_zero])
          refine wpAnyH_done (by kernel_rfl) ?_ _
          exact ⟨rfl, b7, rfl, hH, V2⟩
      · rw [if_pos (by rfl)]
        go_simp
        have V := heap_at W (.cells Sh.zero.row 47) _ rfl
        have n0 := row_lt hH.2.1
        have n1 := row_lt hH.2.2.1
        have n2 := row_lt hH.2.2.2
        replace hH : Below w.heap.size w (W.alloc (.cells Sh.zero.row 47)) ∧ (W.alloc (.cells Sh.zero.row 47)).heap[w.heap.size]? = some (.cells (vrow 266 s.at) 44) ∧ (W.alloc (.cells Sh.zero.row 47)).heap[w.heap.size + 1]? = some (.cells (vrow 2 (spAt x y)) 46) ∧ (W.alloc (.cells Sh.zero.row 47)).heap[b5]? = some (.cells (vrow 266 r.at) 47) := ⟨hH.1.alloc hH.1.size _, heap_past _ _ _ _ (row_lt hH.2.1) hH.2.1, heap_past _ _ _ _ (row_lt hH.2.2.1) hH.2.2.1, heap_past _ _ _ _ (row_lt hH.2.2.2) hH.2.2.2⟩
        refine hK.out _ _ hH (fun hH => ?_)
        clear hK K
        (try simp only [Act.put, List.setIfInBounds_toArray, List.set_cons_succ, List.set_cons_zero])
        generalize hb7 : W.heap.size = b7 at V n0 n1 n2 ⊢
        generalize W.alloc _ = Y15 at hH V ⊢
        clear hb7
        refine wpAnyH_ready (rs := [1]) (by kernel_rfl) (by simp) (AllReadyH.cons rfl (fun K hK => ?_) AllReadyH.nil)
        rw [if_pos (by rfl)]
        go_simp
        go_at_call 19
        refine (HT0.out _).mono ?_
        rintro o X24 ⟨rfl, hb⟩
        replace hH : Below w.heap.size w X24 ∧ X24.heap[w.heap.size]? = some (.cells (vrow 266 s.at) 44) ∧ X24.heap[w.heap.size + 1]? = some (.cells (vrow 2 (spAt x y)) 46) ∧ X24.heap[b5]? = some (.cells (vrow 266 r.at) 47) := ⟨hH.1.trans (hb.mono hH.1.size), row_next hb hH.2.1, row_next hb hH.2.2.1, row_next hb hH.2.2.2⟩
        replace V := row_next hb V
        clear hb
        refine hK.out _ _ hH (fun hH => ?_)
        clear hK K
        (try simp only [Act.put, List.setIfInBounds_toArray, List.set_cons_succ, List.set_cons_zero])
        refine wpAnyH_ready (rs := [3]) (by kernel_rfl) (by simp) (AllReadyH.cons rfl (fun K hK => ?_) AllReadyH.nil)
        rw [if_pos (by rfl)]
        go_simp
        go_at_call 20
        refine (HT1.out _).mono ?_
        rintro o X25 ⟨rfl, hb⟩
        replace hH : Below w.heap.size w X25 ∧ X25.heap[w.heap.size]? = some (.cells (vrow 266 s.at) 44) ∧ X25.heap[w.heap.size + 1]? = some (.cells (vrow 2 (spAt x y)) 46) ∧ X25.heap[b5]? = some (.cells (vrow 266 r.at) 47) := ⟨hH.1.trans (hb.mono hH.1.size), row_next hb hH.2.1, row_next hb hH.2.2.1, row_next hb hH.2.2.2⟩
        replace V := row_next hb V
        clear hb
        refine hK.out _ _ hH (fun hH => ?_)
        clear hK K
        (try simp only [Act.put, List.setIfInBounds_toArray, List.set_cons_succ, List.set_cons_zero])
        refine wpAnyH_ready (rs := [5]) (by kernel_rfl) (by simp) (AllReadyH.cons rfl (fun K hK => ?_) AllReadyH.nil)
        rw [if_pos (by rfl)]
        go_simp
        go_at_call 24
        refine (HI.out _ (hE.next hH.1)).mono ?_
        rintro o X26 ⟨rfl, hb⟩
        replace hH : Below w.heap.size w X26 ∧ X26.heap[w.heap.size]? = some (.cells (vrow 266 s.at) 44) ∧ X26.heap[w.heap.size + 1]? = some (.cells (vrow 2 (spAt x y)) 46) ∧ X26.heap[b5]? = some (.cells (vrow 266 r.at) 47) := ⟨hH.1.trans (hb.mono hH.1.size), row_next hb hH.2.1, row_next hb hH.2.2.1, row_next hb hH.2.2.2⟩
        replace V := row_next hb V
        clear hb
        refine hK.out _ _ hH (fun hH => ?_)
        clear hK K
        (try simp only [Act.put, List.setIfInBounds_toArray, List.set_cons_succ, List.set_cons_zero])
        refine wpAnyH_take (i := 6) (v := (.tuple #[.agg r.row, .int .i64 c])) rfl (by kernel_rfl) (by kernel_rfl) (by kernel_rfl) (fun _ _ _ h => by cases h.1) (.inl ⟨by rfl, fun w _ => by go_simp⟩) hH ?_
        (try simp only [Act.put, List.setIfInBounds_toArray, List.set_cons_succ, List.set_cons_zero])
        refine wpAnyH_take (i := 7) (v := (.agg r.row)) rfl (by kernel_rfl) (by kernel_rfl) (by kernel_rfl) (fun _ _ _ h => by cases h.1) (.inl ⟨by rfl, fun w _ => by go_simp⟩) hH ?_
        (try simp only [Act.put, List.setIfInBounds_toArray, List.set_cons_succ, List.set_cons_zero])
        refine wpAnyH_take (i := 8) (v := (.int .i64 c)) rfl (by kernel_rfl) (by kernel_rfl) (by kernel_rfl) (fun _ _ _ h => by cases h.1) (.inl ⟨by rfl, fun w _ => by go_simp⟩) hH ?_
        (try simp only [Act.put, List.setIfInBounds_toArray, List.set_cons_succ, List.set_cons_zero])
        refine wpAnyH_ready (rs := [10]) (by kernel_rfl) (by simp) (AllReadyH.cons rfl (fun K hK => ?_) AllReadyH.nil)
        rw [if_pos (by rfl)]
        unfold Oper.wp
        rw [run_storemid 47 (.tmp 9) (.tmp 27) rfl b7 0 rfl 266 266 Sh.zero.at r.at rfl 47 size_sheet V (by omega) (fun i _ => r.one i), vrow_over_all, Oper.upon_skip]
        have V2 := row_set V (vrow 266 r.at)
        have hH2 : Below w.heap.size w (X26.setRow b7 (vrow 266 r.at)) ∧ (X26.setRow b7 (vrow 266 r.at)).heap[w.heap.size]? = some (.cells (vrow 266 s.at) 44) ∧ (X26.setRow b7 (vrow 266 r.at)).heap[w.heap.size + 1]? = some (.cells (vrow 2 (spAt x y)) 46) ∧ (X26.setRow b7 (vrow 266 r.at)).heap[b5]? = some (.cells (vrow 266 r.at) 47) := ⟨Below_setRow hH.1 (by omega) _, row_set' (by omega) hH.2.1 _, row_set' (by omega) hH.2.2.1 _, row_set' (by omega) hH.2.2.2 _⟩
        refine hK.out _ _ hH2 (fun hH => ?_)
        clear hK K hH2
        (try simp only [Act.put, List.setIfInBounds_toArray, List.set_cons_succ, List.set_cons_zero])
        refine wpAnyH_take (i := 11) (v := (.int .i64 c)) rfl (by kernel_rfl) (by kernel_rfl) (by kernel_rfl) (fun _ _ _ h => by cases h.1) (.inl ⟨by rfl, fun w _ => by go_simp⟩) hH ?_
        (try simp only [Act.put, List.setIfInBounds_toArray, List.set_cons_succ, List.set_cons_zero])
        refine wpAnyH_done (by kernel_rfl) ?_ _
        exact ⟨rfl, b7, rfl, hH, V2⟩
    · rintro e2 a2 W2 ⟨rfl, b7, rfl, ⟨hB, P0, P1, V5⟩, V7⟩
      replace hB := Go.Lib.hid hB; replace P0 := Go.Lib.hid P0; replace P1 := Go.Lib.hid P1; replace V5 := Go.Lib.hid V5; replace V7 := Go.Lib.hid V7
      go_wp2_with (first
        | (refine wpList_loadall rfl 47 (.tmp 9) rfl _ rfl 266 r.at 47 _ Tryd.underlying47 rfl size_sheet V7.out ?_)
        | (refine wpList_loadall rfl 47 (.tmp 7) rfl _ rfl 266 r.at 47 _ Tryd.underlying47 rfl size_sheet V5.out ?_)
        | (go_at_call 22; refine (eqSheet_any r _).mono ?_; rintro o w3 ⟨rfl, hb⟩; replace hB := Go.Lib.hid (below_next hB.out hb); clear hb))
      go_ret
      exact ⟨rfl, hB.out⟩
theorem Soak_law (s : Sh) (x y m : Int) (e : ErrE) (w : World) (hE : Errs e w) (hf : s.fit) (hx : -128 ≤ x ∧ x ≤ 127) (hy : -128 ≤ y ∧ y ≤ 127) : Calls Tryd.prog 6 #[.agg s.row, .agg #[.int .i8 x, .int .i8 y], .int .i64 m] w fun o w' => o = .returned (.bool true) ∧ Below w.heap.size w w' := by
  obtain ⟨r, c, h1, h2⟩ := drop_both s x y 0 0 m hf hx hy e
  exact Soak_walk s x y m r c e w hE (fun w => specSoak s r x y m c w h1) (fun w hE => implSoak s r x y m c e h2 w hE)
end Go.Proofs.YthkkbkpfomhdeaaDoor
