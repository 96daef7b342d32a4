import Derived.Deep.RegionHeld3
import Derived.Test.YtlgeemlbilngaaaDoorPairB
import Derived.Test.YtlgeemlbilngaaaDoorEvI
namespace Go.Proofs.YtlgeemlbilngaaaDoor
open Go.RowKit
set_option maxRecDepth 100000
set_option linter.unusedVariables false
set_option linter.unusedSimpArgs false
set_option maxHeartbeats 4000000 in
theorem evc_bad (s : Sh) (ax : Int) (d : Bool) (pr : Int) (b1 b2 : Nat) (w : World) (h1 : w.heap[b1]? = some (.cells (vrow 266 s.at) 36)) (h2 : w.heap[b2]? = some (.cells (vrow 3 (foAt ax d pr)) 38)) (hf : s.fit) (hv : (okI s && foldOk s ax d pr) = false) : Calls Tryd.prog 29 #[.pointer (some ⟨b1, 0, none⟩), .pointer (some ⟨b2, 0, none⟩)] w fun e w' => e = .panicked [{ v := .iface 110 (.agg #[.int .i8 ax, .bool d, .int .i8 pr]), recovered := false }] ∧ Below w.heap.size w w' := by
  have HP := fun w => pairs_bad s ax d pr w hf hv
  have zz := zero_sheet
  have hB : Hid (Below w.heap.size w (w.alloc (.cells (vrow 266 Sh.zero.at) 36))) := Go.Lib.hid ((Below.refl w.heap.size w).alloc (Nat.le_refl _) _)
  have P := Go.Lib.hid (heap_past w (.cells (vrow 266 Sh.zero.at) 36) _ _ (row_lt h1) h1)
  have F := Go.Lib.hid (heap_past w (.cells (vrow 266 Sh.zero.at) 36) _ _ (row_lt h2) h2)
  have Z := Go.Lib.hid (heap_at w (.cells (vrow 266 Sh.zero.at) 36) _ rfl)
  have g1 := row_lt h1; have g2 := row_lt h2
  clear h1 h2
  clear hv
  go_enter Tryd.func29, Tryd.ntmps29
  go_wp2
  refine Code.wp_mono (Q := fun e a' W' => e = .panic [{ v := .iface 110 (.agg #[.int .i8 ax, .bool d, .int .i8 pr]), recovered := false }] ∧ a'.defers = [] ∧ Below w.heap.size w W') ?_ ?_
  rotate_left
  · refine wp_region_held_drew (S := fun X => Below w.heap.size w X ∧ X.heap[b1]? = some (.cells (vrow 266 s.at) 36) ∧ X.heap[b2]? = some (.cells (vrow 3 (foAt ax d pr)) 38)) (by kernel_rfl) ⟨hB.out.drew, P.out, F.out⟩ (fun hH => ?_)
    have V2 := drwP Z.out
    clear hB P F Z
    generalize World.drew _ = W at hH V2 ⊢
    refine wpAnyH_take (i := 0) (v := (.agg (vrow 266 s.at))) rfl (by kernel_rfl) (by kernel_rfl) (by kernel_rfl) (fun _ _ _ h => h) (yields_row (by rfl) 36 _ rfl b1 rfl 266 s.at 36 _ Tryd.underlying36 rfl size_sheet (fun _ h => h.2.1)) hH ?_
    (try simp only [List.getElem_toArray, List.getElem_cons_succ, List.getElem_cons_zero, Act.put, List.setIfInBounds_toArray, List.set_cons_succ, List.set_cons_zero])
    refine wpAnyH_take (i := 1) (v := (.agg (vrow 266 s.at))) rfl (by kernel_rfl) (by kernel_rfl) (by kernel_rfl) (fun _ _ _ h => h) (yields_row (by rfl) 36 _ rfl b1 rfl 266 s.at 36 _ Tryd.underlying36 rfl size_sheet (fun _ h => h.2.1)) hH ?_
    (try simp only [List.getElem_toArray, List.getElem_cons_succ, List.getElem_cons_zero, Act.put, List.setIfInBounds_toArray, List.set_cons_succ, List.set_cons_zero])
    refine wpAnyH_take (i := 2) (v := (.agg (vrow 3 (foAt ax d pr)))) rfl (by kernel_rfl) (by kernel_rfl) (by kernel_rfl) (fun _ _ _ h => h) (yields_row (by rfl) 38 _ rfl b2 rfl 3 (foAt ax d pr) 38 _ Tryd.underlying38 rfl size_fold (fun _ h => h.2.2)) hH ?_
    (try simp only [List.getElem_toArray, List.getElem_cons_succ, List.getElem_cons_zero, Act.put, List.setIfInBounds_toArray, List.set_cons_succ, List.set_cons_zero])
    refine wpAnyH_ready (rs := [3]) (by kernel_rfl) (by simp) (AllReadyH.cons rfl (fun K hK => ?_) AllReadyH.nil)
    rw [if_pos (by rfl)]
    go_simp
    go_at_call 24
    refine (HP _).mono ?_
    rintro o X ⟨rfl, hb⟩
    exact ⟨rfl, below_next hH.1 hb⟩
  rintro e1 a1 W1 ⟨rfl, hd, hB1⟩
  exact ⟨hd, rfl, hB1⟩
set_option maxHeartbeats 4000000 in
theorem evc_ok (s : Sh) (ax : Int) (d : Bool) (pr : Int) (a c : Nat) (b1 b2 : Nat) (w : World) (h1 : w.heap[b1]? = some (.cells (vrow 266 s.at) 36)) (h2 : w.heap[b2]? = some (.cells (vrow 3 (foAt ax d pr)) 38)) (hf : s.fit) (hv : (okI s && foldOk s ax d pr) = true) (hb0 : bdS s) (hax : 1 ≤ ax ∧ ax ≤ 8) (ea : s.wide = a) (ec : s.high = c) (ha : a ≤ 8) (hc : c ≤ 8) : Calls Tryd.prog 29 #[.pointer (some ⟨b1, 0, none⟩), .pointer (some ⟨b2, 0, none⟩)] w fun e w' => e = .returned (.agg (vrow 266 (evL s ax d (prsL s a c ax d)).at)) ∧ Below w.heap.size w w' := by
  have HP := fun w => pairs_any s ax d pr a c w hf hv hax ea ec ha hc
  have HO := fun w v B (h : PRO w v ax d (prsL s a c ax d) B) => even_any s ax d (prsL s a c ax d) v B w hb0 (prsL_in s ha hc) (prsL_len s ha hc) h
  generalize evL s ax d (prsL s a c ax d) = r at *
  generalize prsL s a c ax d = L at *
  have zz := zero_sheet
  have hB : Hid (Below w.heap.size w (w.alloc (.cells (vrow 266 Sh.zero.at) 36))) := Go.Lib.hid ((Below.refl w.heap.size w).alloc (Nat.le_refl _) _)
  have P := Go.Lib.hid (heap_past w (.cells (vrow 266 Sh.zero.at) 36) _ _ (row_lt h1) h1)
  have F := Go.Lib.hid (heap_past w (.cells (vrow 266 Sh.zero.at) 36) _ _ (row_lt h2) h2)
  have Z := Go.Lib.hid (heap_at w (.cells (vrow 266 Sh.zero.at) 36) _ rfl)
  have g1 := row_lt h1; have g2 := row_lt h2
  clear h1 h2
  clear hv ea ec
  go_enter Tryd.func29, Tryd.ntmps29
  go_wp2
  refine Code.wp_mono (Q := fun e a' W' => e = .normal ∧ a'.tmps.getD 2 undef = .pointer (some ⟨w.heap.size, 0, none⟩) ∧ a'.defers = [] ∧ Below w.heap.size w W' ∧ W'.heap[w.heap.size]? = some (.cells (vrow 266 r.at) 36)) ?_ ?_
  rotate_left
  · refine wp_region_held_drew (S := fun X => Below w.heap.size w X ∧ X.heap[b1]? = some (.cells (vrow 266 s.at) 36) ∧ X.heap[b2]? = some (.cells (vrow 3 (foAt ax d pr)) 38)) (by kernel_rfl) ⟨hB.out.drew, P.out, F.out⟩ (fun hH => ?_)
    have V2 := drwP Z.out
    clear hB P F Z
    generalize World.drew _ = W at hH V2 ⊢
    refine wpAnyH_take (i := 0) (v := (.agg (vrow 266 s.at))) rfl (by kernel_rfl) (by kernel_rfl) (by kernel_rfl) (fun _ _ _ h => by cases h.1) (yields_row (by rfl) 36 _ rfl b1 rfl 266 s.at 36 _ Tryd.underlying36 rfl size_sheet (fun _ h => h.2.1)) hH ?_
    (try simp only [List.getElem_toArray, List.getElem_cons_succ, List.getElem_cons_zero, Act.put, List.setIfInBounds_toArray, List.set_cons_succ, List.set_cons_zero])
    refine wpAnyH_take (i := 1) (v := (.agg (vrow 266 s.at))) rfl (by kernel_rfl) (by kernel_rfl) (by kernel_rfl) (fun _ _ _ h => by cases h.1) (yields_row (by rfl) 36 _ rfl b1 rfl 266 s.at 36 _ Tryd.underlying36 rfl size_sheet (fun _ h => h.2.1)) hH ?_
    (try simp only [List.getElem_toArray, List.getElem_cons_succ, List.getElem_cons_zero, Act.put, List.setIfInBounds_toArray, List.set_cons_succ, List.set_cons_zero])
    refine wpAnyH_take (i := 2) (v := (.agg (vrow 3 (foAt ax d pr)))) rfl (by kernel_rfl) (by kernel_rfl) (by kernel_rfl) (fun _ _ _ h => by cases h.1) (yields_row (by rfl) 38 _ rfl b2 rfl 3 (foAt ax d pr) 38 _ Tryd.underlying38 rfl size_fold (fun _ h => h.2.2)) hH ?_
    (try simp only [List.getElem_toArray, List.getElem_cons_succ, List.getElem_cons_zero, Act.put, List.setIfInBounds_toArray, List.set_cons_succ, List.set_cons_zero])
    refine wpAnyH_ready (rs := [3]) (by kernel_rfl) (by simp) (AllReadyH.cons rfl (fun K hK => ?_) AllReadyH.nil)
    rw [if_pos (by rfl)]
    go_simp
    go_at_call 24
    refine (HP _).mono ?_
    rintro o X ⟨v, rfl, hO, hb⟩
    replace hH : Below w.heap.size w X ∧ X.heap[b1]? = some (.cells (vrow 266 s.at) 36) ∧ X.heap[b2]? = some (.cells (vrow 3 (foAt ax d pr)) 38) := ⟨hH.1.trans (hb.mono hH.1.size), row_next hb hH.2.1, row_next hb hH.2.2⟩
    replace V2 := row_next hb V2
    clear hb
    have hPO := own_pro hO
    clear hO
    refine hK.out _ _ hH (fun hH => ?_)
    clear hK K
    (try simp only [List.getElem_toArray, List.getElem_cons_succ, List.getElem_cons_zero, Act.put, List.setIfInBounds_toArray, List.set_cons_succ, List.set_cons_zero])
    refine wpAnyH_ready (rs := [4]) (by kernel_rfl) (by simp) (AllReadyH.cons rfl (fun K hK => ?_) AllReadyH.nil)
    rw [if_pos (by rfl)]
    go_simp
    go_at_call 30
    refine (HO _ _ _ hPO).mono ?_
    rintro o Y ⟨rfl, hb⟩
    replace hH : Below w.heap.size w Y ∧ Y.heap[b1]? = some (.cells (vrow 266 s.at) 36) ∧ Y.heap[b2]? = some (.cells (vrow 3 (foAt ax d pr)) 38) := ⟨hH.1.trans (hb.mono hH.1.size), row_next hb hH.2.1, row_next hb hH.2.2⟩
    replace V2 := row_next hb V2
    clear hb
    refine hK.out _ _ hH (fun hH => ?_)
    clear hK K
    (try simp only [List.getElem_toArray, List.getElem_cons_succ, List.getElem_cons_zero, Act.put, List.setIfInBounds_toArray, List.set_cons_succ, List.set_cons_zero])
    refine wpAnyH_ready (rs := [5]) (by kernel_rfl) (by simp) (AllReadyH.cons rfl (fun K hK => ?_) AllReadyH.nil)
    rw [if_pos (by rfl)]
    unfold Oper.wp
    rw [run_storemid 36 (.tmp 2) (.tmp 7) rfl w.heap.size 0 rfl 266 266 Sh.zero.at r.at rfl 36 size_sheet V2 (by omega) (fun i _ => Sh.one _ i), vrow_over_all, Oper.upon_skip]
    replace V2 := row_set V2 (vrow 266 r.at)
    have n1 := row_lt hH.2.1; have n2 := row_lt hH.2.2
    have hH2 : Below w.heap.size w (Y.setRow w.heap.size (vrow 266 r.at)) ∧ (Y.setRow w.heap.size (vrow 266 r.at)).heap[b1]? = some (.cells (vrow 266 s.at) 36) ∧ (Y.setRow w.heap.size (vrow 266 r.at)).heap[b2]? = some (.cells (vrow 3 (foAt ax d pr)) 38) := ⟨Below_setRow hH.1 (Nat.le_refl _) _, row_set' (by omega) hH.2.1 _, row_set' (by omega) hH.2.2 _⟩
    refine hK.out _ _ hH2 (fun hH => ?_)
    clear hK K hH2
    (try simp only [List.getElem_toArray, List.getElem_cons_succ, List.getElem_cons_zero, Act.put, List.setIfInBounds_toArray, List.set_cons_succ, List.set_cons_zero])
    refine wpAnyH_done (by kernel_rfl) ?_ _
    exact ⟨rfl, rfl, rfl, hH.1, V2⟩
  rintro e1 a1 W1 ⟨rfl, h_4, hdf, hB1, V2⟩
  go_wp2
  exact ret_row Tryd.results29 w.heap.size 266 r.at 36 _ Tryd.underlying36 rfl size_sheet h_4 hdf V2 ⟨rfl, hB1⟩
end Go.Proofs.YtlgeemlbilngaaaDoor
