import Derived.Deep.RegionHeld3
import Derived.Test.YthienbbecbakjaaDoorLpI
namespace Go.Proofs.YthienbbecbakjaaDoor
open Go.RowKit
set_option maxRecDepth 100000
set_option linter.unusedVariables false
set_option linter.unusedSimpArgs false
set_option maxHeartbeats 2000000 in
theorem lpj_err (s : Sh) (D n k : Nat) (c : Int) (px py : Nat → Int) (e : ErrE) (w : World) (hE : Errs e w) (h2 : w.heap[D]? = some (.cells (vrow (n * 2) (spf px py)) 61)) (hc0 : ∀ w, Errs e w → w.heap[D]? = some (.cells (vrow (n * 2) (spf px py)) 61) → Calls Tryd.prog 47 #[.agg s.row, .slice (some ⟨D, 0, none⟩) n n] w fun o w' => o = .returned (errP e k) ∧ Below w.heap.size w w') (hd0 : ∀ w, Errs e w → Calls Tryd.prog 35 #[errP e k] w fun o w' => o = .returned (.int .i64 c) ∧ Below w.heap.size w w') : Calls Tryd.prog 23 #[.agg s.row, .slice (some ⟨D, 0, none⟩) n n] w fun o w' => o = .returned (.tuple #[.int .i64 0, .int .i64 c]) ∧ Below w.heap.size w w' := by
  have HS := Go.Lib.hid hc0
  have HD := Go.Lib.hid hd0
  clear hc0 hd0
  have P : Hid ((w.alloc (.cells (vrow 266 s.at) 37)).heap[w.heap.size]? = some (.cells (vrow 266 s.at) 37)) := heap_at _ _ _ (by simp)
  have L : Hid ((w.alloc (.cells (vrow 266 s.at) 37)).heap[D]? = some (.cells (vrow (n * 2) (spf px py)) 61)) := heap_past _ _ _ _ (row_lt h2) h2
  have hB : Hid (Below w.heap.size w (w.alloc (.cells (vrow 266 s.at) 37))) := Go.Lib.hid ((Below.refl w.heap.size w).alloc (by simp <;> omega) _)
  clear h2
  go_enter Tryd.func23, Tryd.ntmps23
  go_wp2_with (first
    | go_skip
    | ((with_reducible refine wlAt 7 rfl ?_); refine wpList_loadall rfl 37 (.tmp 2) rfl _ rfl 266 s.at 37 _ Tryd.underlying37 rfl size_sheet P.out ?_)
    | (go_at_call 47; (refine (HS.out _ (hE.next hB.out) L.out).mono ?_); rintro o w1 ⟨rfl, hb⟩; replace P := Go.Lib.hid (row_next hb P.out); replace L := Go.Lib.hid (row_next hb L.out); replace hB := Go.Lib.hid (below_next hB.out hb); clear hb)
    | (go_at_call 35; (refine (HD.out _ (hE.next hB.out)).mono ?_); rintro o w1 ⟨rfl, hb⟩; replace hB := Go.Lib.hid (below_next hB.out hb); clear hb))
  go_ret2
  exact ⟨rfl, hB.out⟩
set_option maxHeartbeats 8000000 in
theorem lpj_ok (s : Sh) (D n : Nat) (px py : Nat → Int) (a c : Nat) (e : ErrE) (w : World) (hE : Errs e w) (hn : n ≤ 1048576) (ea : s.wide = a) (ec : s.high = c) (ha : a ≤ 8) (hc : c ≤ 8) (hf : s.fit) (ho : okI s = true) (hin : insL s px py n = true) (hw : waxL s px py n = false) (h2 : w.heap[D]? = some (.cells (vrow (n * 2) (spf px py)) 61)) : Calls Tryd.prog 23 #[.agg s.row, .slice (some ⟨D, 0, none⟩) n n] w fun o w' => o = .returned (.tuple #[.int .i64 (upTo (pastP s (dryL s (cellsL a c)) (mkA px py n)) 16 0), .int .i64 0]) ∧ Below w.heap.size w w' := by
  have HK := Go.Lib.hid fun w hE h2 => ckUnw_any s D n px py e w hn hE h2 hf ho hin false hw
  have HAO := Go.Lib.hid fun w h2 => areaOf_any px py D n w hn (insL_in8 ho hin) h2
  have HGR := Go.Lib.hid fun w => ground_any s a c w ea ec ha hc ho
  generalize hl : dryL s (cellsL a c) = l at *
  generalize mkA px py n = m at *
  have HLP := Go.Lib.hid fun gp gl f f2 w hG => lp_any s l gp gl f f2 m w hG
  generalize upTo (pastP s l m) 16 0 = q at *
  clear hin hf ho hw hl
  have P : Hid ((w.alloc (.cells (vrow 266 s.at) 37)).heap[w.heap.size]? = some (.cells (vrow 266 s.at) 37)) := heap_at _ _ _ (by simp)
  have L : Hid ((w.alloc (.cells (vrow 266 s.at) 37)).heap[D]? = some (.cells (vrow (n * 2) (spf px py)) 61)) := heap_past _ _ _ _ (row_lt h2) h2
  have hB : Hid (Below w.heap.size w (w.alloc (.cells (vrow 266 s.at) 37))) := Go.Lib.hid ((Below.refl w.heap.size w).alloc (by simp <;> omega) _)
  clear h2
  go_enter Tryd.func23, Tryd.ntmps23
  go_wp2_with (first
    | go_skip
    | ((with_reducible refine wlAt 7 rfl ?_); refine wpList_loadall rfl 37 (.tmp 2) rfl _ rfl 266 s.at 37 _ Tryd.underlying37 rfl size_sheet P.out ?_)
    | (go_at_call 47; (refine (HK.out _ (hE.next hB.out) L.out).mono ?_); rintro o w1 ⟨rfl, hb⟩; replace P := Go.Lib.hid (row_next hb P.out); replace L := Go.Lib.hid (row_next hb L.out); replace hB := Go.Lib.hid (below_next hB.out hb); clear hb))
  (try simp only [Act.put])
  refine wp_region_noPanic ?_
  refine wp_region_held_drew (S := fun X => X.heap[w.heap.size]? = some (.cells (vrow 266 s.at) 37) ∧ X.heap[D]? = some (.cells (vrow (n * 2) (spf px py)) 61) ∧ Below w.heap.size w X) (by kernel_rfl) ⟨drwP P.out, drwP L.out, hB.out.drew⟩ (fun hH => ?_)
  clear hB P L
  generalize World.drew _ = Wd at hH ⊢
  refine wpAnyH_take (i := 0) (v := (.slice (some ⟨D, 0, none⟩) n n)) rfl (by kernel_rfl) (by kernel_rfl) (by kernel_rfl) (fun _ _ _ h => h) (.inl ⟨by kernel_rfl, fun w _ => by go_simp⟩) hH ?_
  (try simp only [List.getElem_toArray, List.getElem_cons_succ, List.getElem_cons_zero, Act.put, List.setIfInBounds_toArray, List.set_cons_succ, List.set_cons_zero])
  refine wpAnyH_take (i := 2) (v := (.agg (vrow 266 s.at))) rfl (by kernel_rfl) (by kernel_rfl) (by kernel_rfl) (fun _ _ _ h => h) (yields_row (by kernel_rfl) 37 _ rfl w.heap.size rfl 266 s.at 37 _ Tryd.underlying37 rfl size_sheet (fun _ h => h.1)) hH ?_
  (try simp only [List.getElem_toArray, List.getElem_cons_succ, List.getElem_cons_zero, Act.put, List.setIfInBounds_toArray, List.set_cons_succ, List.set_cons_zero])
  refine wpAnyH_ready (rs := [1]) (by kernel_rfl) (by simp) (AllReadyH.cons rfl (fun K hK => ?_) AllReadyH.nil)
  rw [if_pos (by kernel_rfl)]
  go_simp
  go_at_call 37
  refine (HAO.out _ hH.2.1).mono ?_
  rintro o X1 ⟨rfl, hb⟩
  have hH1 : X1.heap[w.heap.size]? = some (.cells (vrow 266 s.at) 37) ∧ X1.heap[D]? = some (.cells (vrow (n * 2) (spf px py)) 61) ∧ Below w.heap.size w X1 := ⟨row_next hb hH.1, row_next hb hH.2.1, hH.2.2.trans (hb.mono hH.2.2.size)⟩
  clear hH hb
  refine hK.out _ _ hH1 (fun hH => ?_)
  clear hK K hH1
  (try simp only [List.getElem_toArray, List.getElem_cons_succ, List.getElem_cons_zero, Act.put, List.setIfInBounds_toArray, List.set_cons_succ, List.set_cons_zero])
  refine wpAnyH_ready (rs := [3]) (by kernel_rfl) (by simp) (AllReadyH.cons rfl (fun K hK => ?_) AllReadyH.nil)
  rw [if_pos (by kernel_rfl)]
  go_simp
  go_at_call 39
  refine (HGR.out _).mono ?_
  rintro o X2 ⟨gp, gl, rfl, hGM, hb⟩
  obtain ⟨f, f2, GR⟩ := hGM.rows
  clear hGM
  have hH1 : X2.heap[w.heap.size]? = some (.cells (vrow 266 s.at) 37) ∧ X2.heap[D]? = some (.cells (vrow (n * 2) (spf px py)) 61) ∧ Below w.heap.size w X2 := ⟨row_next hb hH.1, row_next hb hH.2.1, hH.2.2.trans (hb.mono hH.2.2.size)⟩
  clear hH hb
  refine hK.out _ _ hH1 (fun hH => ?_)
  clear hK K hH1
  (try simp only [List.getElem_toArray, List.getElem_cons_succ, List.getElem_cons_zero, Act.put, List.setIfInBounds_toArray, List.set_cons_succ, List.set_cons_zero])
  refine wpAnyH_ready (rs := [4]) (by kernel_rfl) (by simp) (AllReadyH.cons rfl (fun K hK => ?_) AllReadyH.nil)
  rw [if_pos (by kernel_rfl)]
  go_simp
  go_at_call 48
  refine (HLP.out _ _ _ _ _ GR).mono ?_
  rintro o X3 ⟨rfl, hb⟩
  clear GR
  have hH1 : X3.heap[w.heap.size]? = some (.cells (vrow 266 s.at) 37) ∧ X3.heap[D]? = some (.cells (vrow (n * 2) (spf px py)) 61) ∧ Below w.heap.size w X3 := ⟨row_next hb hH.1, row_next hb hH.2.1, hH.2.2.trans (hb.mono hH.2.2.size)⟩
  clear hH hb
  refine hK.out _ _ hH1 (fun hH => ?_)
  clear hK K hH1
  (try simp only [List.getElem_toArray, List.getElem_cons_succ, List.getElem_cons_zero, Act.put, List.setIfInBounds_toArray, List.set_cons_succ, List.set_cons_zero])
  refine wpAnyH_take (i := 5) (v := (.int .i64 q)) rfl (by kernel_rfl) (by kernel_rfl) (by kernel_rfl) (fun _ _ _ h => h) (.inl ⟨by kernel_rfl, fun w _ => by go_simp⟩) hH ?_
  (try simp only [List.getElem_toArray, List.getElem_cons_succ, List.getElem_cons_zero, Act.put, List.setIfInBounds_toArray, List.set_cons_succ, List.set_cons_zero])
  refine wpAnyH_take (i := 6) (v := (.int .i64 0)) rfl (by kernel_rfl) (by kernel_rfl) (by kernel_rfl) (fun _ _ _ h => h) (.inl ⟨by kernel_rfl, fun w _ => by go_simp⟩) hH ?_
  (try simp only [List.getElem_toArray, List.getElem_cons_succ, List.getElem_cons_zero, Act.put, List.setIfInBounds_toArray, List.set_cons_succ, List.set_cons_zero])
  refine wpAnyH_done (by kernel_rfl) ?_ _
  refine NoPanic.normal ?_
  (try simp only [List.getElem_toArray, List.getElem_cons_succ, List.getElem_cons_zero, Act.put, List.setIfInBounds_toArray, List.set_cons_succ, List.set_cons_zero])
  have b1 := hH.2.2
  go_wp2
  go_ret2
  exact ⟨rfl, b1⟩
end Go.Proofs.YthienbbecbakjaaDoor
