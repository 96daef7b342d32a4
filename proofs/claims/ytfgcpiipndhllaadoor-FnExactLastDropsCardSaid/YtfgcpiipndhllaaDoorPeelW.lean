import Derived.Test.YtfgcpiipndhllaaDoorPeelX
import Derived.Test.YtfgcpiipndhllaaDoorPeelS
import Derived.Test.YtfgcpiipndhllaaDoorDrop7
import Derived.Test.YtfgcpiipndhllaaDoorDrA
import Derived.Test.YtfgcpiipndhllaaDoorCodeOf
namespace Go.Proofs.YtfgcpiipndhllaaDoor
open Go.RowKit
set_option maxRecDepth 100000
set_option linter.unusedVariables false
set_option linter.unusedSimpArgs false
theorem cellsL_memP {a c : Nat} (ha : a ≤ 8) (hc : c ≤ 8) (p : Sp8) : p ∈ cellsL a c ↔ p.1.1 < a ∧ p.1.2 < c := by
  constructor
  · intro h
    have h2 : p.1 ∈ (cellsL a c).map (·.1) := List.mem_map.2 ⟨p, h, rfl⟩
    rw [cellsL_val a c ha c hc] at h2
    exact pairsL_mem h2
  · intro ⟨h1, h2⟩
    have h3 : p.1 ∈ (cellsL a c).map (·.1) := by
      rw [cellsL_val a c ha c hc]
      simp only [pairsL, List.mem_flatMap, List.mem_range, List.mem_map]
      exact ⟨p.1.2, h2, p.1.1, h1, rfl⟩
    obtain ⟨q, hq, e⟩ := List.mem_map.1 h3
    rwa [Subtype.ext e] at hq
theorem okP_no4 {p : Pic} (hf : p.fit) (h : okP p = true) : no4 p := fun i hi => by
  have h1 := okP_place h (x := i % 8) (y := i / 8) (by omega) (by omega)
  simp only [placeP, Bool.and_eq_true, decide_eq_true_eq] at h1
  rw [show 8 * (i / 8) + i % 8 = i by omega] at h1
  exact ⟨(hf.ink i hi).1, h1.1⟩
theorem canB_in {p : Pic} {a c : Nat} {x y n : Nat} (ea : p.wide = a) (ec : p.high = c) (h : canB p x y n = true) : x < a ∧ y < c := by
  unfold canB hasP insB at h
  simp only [Bool.and_eq_true, decide_eq_true_eq] at h
  rw [ea, ec] at h
  omega
theorem comb_no (p : Pic) : comb p (fun _ => false) = p := by cases p; rfl
/-- a drop is one of those that can be the last -/
theorem has_ls {p : Pic} (a c : Nat) (ha : a ≤ 8) (hc : c ≤ 8) (x y n : Nat) (hx : x < a) (hy : y < c) (hn : n ≤ 2) : hasD (lsL p a c (cellsL a c)) x y n = lpP p n (cov a c x y) := by
  have he := lpP_eq p (cov a c x y) n (by omega) (by omega)
  rw [he, Bool.eq_iff_iff]
  have hx8 : x < 8 := by omega
  have hy8 : y < 8 := by omega
  constructor
  · intro h
    unfold hasD at h
    rw [List.any_eq_true] at h
    obtain ⟨t, ht, h2⟩ := h
    simp only [Bool.and_eq_true, beq_iff_eq] at h2
    unfold lsL at ht
    rw [List.mem_flatMap] at ht
    obtain ⟨q, hq, hqt⟩ := ht
    unfold lsE at hqt
    cases hp : pinkO p (cov a c q.1.1 q.1.2) with
    | none => rw [hp] at hqt; cases hqt
    | some st =>
      obtain ⟨m, fr⟩ := st
      rw [hp] at hqt
      simp only [List.mem_singleton] at hqt
      subst hqt
      obtain ⟨⟨e1, e2⟩, e3⟩ := h2
      simp only at e1 e2 e3
      have e1' : x = q.1.1 := by omega
      have e2' : y = q.1.2 := by omega
      rw [e1', e2', hp]
      simp only [decide_eq_true_eq]
      exact e3.symm
  · intro h
    cases hp : pinkO p (cov a c x y) with
    | none => rw [hp] at h; cases h
    | some st =>
      obtain ⟨m, fr⟩ := st
      rw [hp] at h
      simp only [decide_eq_true_eq] at h
      unfold hasD
      rw [List.any_eq_true]
      refine ⟨((⟨(x, y), hx8, hy8⟩ : Sp8), m), ?_, by simp [h]⟩
      unfold lsL
      rw [List.mem_flatMap]
      refine ⟨⟨(x, y), hx8, hy8⟩, (cellsL_memP ha hc _).2 ⟨hx, hy⟩, ?_⟩
      unfold lsE
      simp only [hp, List.mem_singleton]
set_option maxHeartbeats 1000000 in
theorem implCb_bad (p : Pic) (x y n : Int) (hf : p.fit) (hv : okP p = false) (e : ErrE) (w : World) (hE : Errs e w) : Calls Tryd.prog 40 #[.agg p.row, .agg (vrow 3 (drAt x y n))] w fun o w' => o = .returned (.tuple #[.bool false, .int .i64 1]) ∧ Below w.heap.size w w' := by
  have HC := Go.Lib.hid fun w hE => ckOn_bad p x y n hf hv e w hE
  have HK := Go.Lib.hid fun w hE => codeOf_1 e w hE
  have P : Hid (((w.alloc (.cells (vrow 66 p.at) 61)).alloc (.cells (vrow 3 (drAt x y n)) 66)).heap[w.heap.size]? = some (.cells (vrow 66 p.at) 61)) := (heap_past _ _ _ _ (by simp <;> omega) (heap_at _ _ _ (by simp)))
  have R : Hid (((w.alloc (.cells (vrow 66 p.at) 61)).alloc (.cells (vrow 3 (drAt x y n)) 66)).heap[w.heap.size + 1]? = some (.cells (vrow 3 (drAt x y n)) 66)) := (heap_at _ _ _ (by simp))
  have hB : Hid (Below w.heap.size w ((w.alloc (.cells (vrow 66 p.at) 61)).alloc (.cells (vrow 3 (drAt x y n)) 66))) := Go.Lib.hid (((Below.refl w.heap.size w).alloc (by simp <;> omega) _).alloc (by simp <;> omega) _)
  have E : Hid (Errs e ((w.alloc (.cells (vrow 66 p.at) 61)).alloc (.cells (vrow 3 (drAt x y n)) 66))) := Go.Lib.hid ((hE.alloc _).alloc _)
  go_enter Tryd.func40, Tryd.ntmps40
  go_wp2_with (first
    | go_skip
    | ((with_reducible refine wlAt 7 rfl ?_); refine wpList_ldm 61 (.tmp 2) rfl (by first | exact want_n rfl | exact want_g _ _ _ rfl rfl rfl) (w.heap.size) _ rfl 66 66 p.at _ rw_pic size_pic P.out (by omega) ?_; rw [pic_row])
    | ((with_reducible refine wlAt 8 rfl ?_); refine wpList_ldm 66 (.tmp 3) rfl (by first | exact want_n rfl | exact want_g _ _ _ rfl rfl rfl) (w.heap.size + 1) _ rfl 3 3 (drAt x y n) _ rw_dr size_dr R.out (by omega) ?_; rw [dr_row0])
    | (go_at_call 94; (refine (HC.out _ E.out).mono ?_); rintro o w1 ⟨rfl, hb⟩; replace P := Go.Lib.hid (row_next hb P.out); replace R := Go.Lib.hid (row_next hb R.out); replace hB := Go.Lib.hid (below_next hB.out hb); replace E := Go.Lib.hid (E.out.next hb); clear hb)
    | (go_at_call 62; (refine (HK.out _ E.out).mono ?_); rintro o w1 ⟨rfl, hb⟩; replace P := Go.Lib.hid (row_next hb P.out); replace R := Go.Lib.hid (row_next hb R.out); replace hB := Go.Lib.hid (below_next hB.out hb); replace E := Go.Lib.hid (E.out.next hb); clear hb))
  go_ret2
  exact ⟨rfl, hB.out⟩
set_option maxHeartbeats 1000000 in
theorem implCb_rng (p : Pic) (x y n : Int) (hf : p.fit) (hv : okP p = true) (hn : canB p x y n = false) (e : ErrE) (w : World) (hE : Errs e w) : Calls Tryd.prog 40 #[.agg p.row, .agg (vrow 3 (drAt x y n))] w fun o w' => o = .returned (.tuple #[.bool false, .int .i64 2]) ∧ Below w.heap.size w w' := by
  have HC := Go.Lib.hid fun w hE => ckOn_rng p x y n hf hv hn e w hE
  have HK := Go.Lib.hid fun w hE => codeOf_2 e w hE
  have P : Hid (((w.alloc (.cells (vrow 66 p.at) 61)).alloc (.cells (vrow 3 (drAt x y n)) 66)).heap[w.heap.size]? = some (.cells (vrow 66 p.at) 61)) := (heap_past _ _ _ _ (by simp <;> omega) (heap_at _ _ _ (by simp)))
  have R : Hid (((w.alloc (.cells (vrow 66 p.at) 61)).alloc (.cells (vrow 3 (drAt x y n)) 66)).heap[w.heap.size + 1]? = some (.cells (vrow 3 (drAt x y n)) 66)) := (heap_at _ _ _ (by simp))
  have hB : Hid (Below w.heap.size w ((w.alloc (.cells (vrow 66 p.at) 61)).alloc (.cells (vrow 3 (drAt x y n)) 66))) := Go.Lib.hid (((Below.refl w.heap.size w).alloc (by simp <;> omega) _).alloc (by simp <;> omega) _)
  have E : Hid (Errs e ((w.alloc (.cells (vrow 66 p.at) 61)).alloc (.cells (vrow 3 (drAt x y n)) 66))) := Go.Lib.hid ((hE.alloc _).alloc _)
  go_enter Tryd.func40, Tryd.ntmps40
  go_wp2_with (first
    | go_skip
    | ((with_reducible refine wlAt 7 rfl ?_); refine wpList_ldm 61 (.tmp 2) rfl (by first | exact want_n rfl | exact want_g _ _ _ rfl rfl rfl) (w.heap.size) _ rfl 66 66 p.at _ rw_pic size_pic P.out (by omega) ?_; rw [pic_row])
    | ((with_reducible refine wlAt 8 rfl ?_); refine wpList_ldm 66 (.tmp 3) rfl (by first | exact want_n rfl | exact want_g _ _ _ rfl rfl rfl) (w.heap.size + 1) _ rfl 3 3 (drAt x y n) _ rw_dr size_dr R.out (by omega) ?_; rw [dr_row0])
    | (go_at_call 94; (refine (HC.out _ E.out).mono ?_); rintro o w1 ⟨rfl, hb⟩; replace P := Go.Lib.hid (row_next hb P.out); replace R := Go.Lib.hid (row_next hb R.out); replace hB := Go.Lib.hid (below_next hB.out hb); replace E := Go.Lib.hid (E.out.next hb); clear hb)
    | (go_at_call 62; (refine (HK.out _ E.out).mono ?_); rintro o w1 ⟨rfl, hb⟩; replace P := Go.Lib.hid (row_next hb P.out); replace R := Go.Lib.hid (row_next hb R.out); replace hB := Go.Lib.hid (below_next hB.out hb); replace E := Go.Lib.hid (E.out.next hb); clear hb))
  go_ret2
  exact ⟨rfl, hB.out⟩
set_option maxHeartbeats 4000000 in
theorem implCb_ok (p : Pic) (a c : Nat) (x y n : Int) (hf : p.fit) (hv : okP p = true) (hn : canB p x y n = true) (ea : p.wide = a) (ec : p.high = c) (ha : a ≤ 8) (hc : c ≤ 8) (e : ErrE) (w : World) (hE : Errs e w) : Calls Tryd.prog 40 #[.agg p.row, .agg (vrow 3 (drAt x y n))] w fun o w' => o = .returned (.tuple #[.bool (hasD (lsL p a c (cellsL a c)) x y n), .int .i64 0]) ∧ Below w.heap.size w w' := by
  have HC := Go.Lib.hid fun w hE => ckOn_ok p x y n hf hv hn e w hE
  have HL := fun w => lastDrops_any p a c w (okP_no4 hf hv) ea ec ha hc
  have HO := fun v B w h => cntD_any (lsL p a c (cellsL a c)) v B x y n w (lsL_len p a c ha hc) h
  generalize lsL p a c (cellsL a c) = L at *
  have P : Hid (((w.alloc (.cells (vrow 66 p.at) 61)).alloc (.cells (vrow 3 (drAt x y n)) 66)).heap[w.heap.size]? = some (.cells (vrow 66 p.at) 61)) := (heap_past _ _ _ _ (by simp <;> omega) (heap_at _ _ _ (by simp)))
  have R : Hid (((w.alloc (.cells (vrow 66 p.at) 61)).alloc (.cells (vrow 3 (drAt x y n)) 66)).heap[w.heap.size + 1]? = some (.cells (vrow 3 (drAt x y n)) 66)) := (heap_at _ _ _ (by simp))
  have hB : Hid (Below w.heap.size w ((w.alloc (.cells (vrow 66 p.at) 61)).alloc (.cells (vrow 3 (drAt x y n)) 66))) := Go.Lib.hid (((Below.refl w.heap.size w).alloc (by simp <;> omega) _).alloc (by simp <;> omega) _)
  have E : Hid (Errs e ((w.alloc (.cells (vrow 66 p.at) 61)).alloc (.cells (vrow 3 (drAt x y n)) 66))) := Go.Lib.hid ((hE.alloc _).alloc _)
  go_enter Tryd.func40, Tryd.ntmps40
  go_wp2_with (first
    | go_skip
    | ((with_reducible refine wlAt 7 rfl ?_); refine wpList_ldm 61 (.tmp 2) rfl (by first | exact want_n rfl | exact want_g _ _ _ rfl rfl rfl) (w.heap.size) _ rfl 66 66 p.at _ rw_pic size_pic P.out (by omega) ?_; rw [pic_row])
    | ((with_reducible refine wlAt 8 rfl ?_); refine wpList_ldm 66 (.tmp 3) rfl (by first | exact want_n rfl | exact want_g _ _ _ rfl rfl rfl) (w.heap.size + 1) _ rfl 3 3 (drAt x y n) _ rw_dr size_dr R.out (by omega) ?_; rw [dr_row0])
    | (go_at_call 94; (refine (HC.out _ E.out).mono ?_); rintro o w1 ⟨rfl, hb⟩; replace P := Go.Lib.hid (row_next hb P.out); replace R := Go.Lib.hid (row_next hb R.out); replace hB := Go.Lib.hid (below_next hB.out hb); replace E := Go.Lib.hid (E.out.next hb); clear hb))
  refine Code.wp_mono (Q := fun e a' W' => e = .normal ∧ (∃ v, a' = { tmps := #[.agg p.row, .agg (vrow 3 (drAt x y n)), .pointer (some ⟨w.heap.size, 0, none⟩), .pointer (some ⟨w.heap.size + 1, 0, none⟩), .bool (hasD L x y n), .int .i64 0, .nilIface, .agg (vrow 66 p.at), .agg (vrow 3 (drAt x y n)), .nilIface, .nilIface, .bool false, undef, undef, .agg (vrow 66 p.at), v, .agg (vrow 3 (drAt x y n)), .bool (hasD L x y n)], defers := [] }) ∧ Below w.heap.size w W') ?_ ?_
  rotate_left
  · refine wp_region_held_drew (S := fun W' => Below w.heap.size w W' ∧ W'.heap[w.heap.size]? = some (.cells (vrow 66 p.at) 61) ∧ W'.heap[w.heap.size + 1]? = some (.cells (vrow 3 (drAt x y n)) 66)) (by kernel_rfl) ⟨hB.out.drew, P.out, R.out⟩ (fun hH => ?_)
    clear hB P R E
    generalize World.drew _ = W at hH ⊢
    refine wpAnyH_take (i := 0) (v := (.agg (vrow 66 p.at))) rfl (by kernel_rfl) (by kernel_rfl) (by kernel_rfl) (fun _ _ _ h => by cases h.1) (yields_row (by rfl) 61 _ rfl w.heap.size rfl 66 p.at 61 _ Tryd.underlying61 rfl size_pic (fun _ h => h.2.1)) hH ?_
    (try simp only [List.getElem_toArray, List.getElem_cons_succ, List.getElem_cons_zero, Act.put, List.setIfInBounds_toArray, List.set_cons_succ, List.set_cons_zero])
    refine wpAnyH_take (i := 2) (v := (.agg (vrow 3 (drAt x y n)))) rfl (by kernel_rfl) (by kernel_rfl) (by kernel_rfl) (fun _ _ _ h => by cases h.1) (yields_row (by rfl) 66 _ rfl (w.heap.size + 1) rfl 3 (drAt x y n) 66 _ Tryd.underlying66 rfl size_dr (fun _ h => h.2.2)) hH ?_
    (try simp only [List.getElem_toArray, List.getElem_cons_succ, List.getElem_cons_zero, Act.put, List.setIfInBounds_toArray, List.set_cons_succ, List.set_cons_zero])
    refine wpAnyH_ready (rs := [1]) (by kernel_rfl) (by simp) (AllReadyH.cons rfl (fun K hK => ?_) AllReadyH.nil)
    rw [if_pos (by rfl)]
    go_simp
    go_at_call 96
    refine (HL _).mono ?_
    rintro o X ⟨v, rfl, hO, hb⟩
    replace hH : Below w.heap.size w X ∧ X.heap[w.heap.size]? = some (.cells (vrow 66 p.at) 61) ∧ X.heap[w.heap.size + 1]? = some (.cells (vrow 3 (drAt x y n)) 66) := ⟨hH.1.trans (hb.mono hH.1.size), row_next hb hH.2.1, row_next hb hH.2.2⟩
    clear hb
    refine hK.out _ _ hH (fun hH => ?_)
    clear hK K
    (try simp only [List.getElem_toArray, List.getElem_cons_succ, List.getElem_cons_zero, Act.put, List.setIfInBounds_toArray, List.set_cons_succ, List.set_cons_zero])
    refine wpAnyH_ready (rs := [3]) (by kernel_rfl) (by simp) (AllReadyH.cons rfl (fun K hK => ?_) AllReadyH.nil)
    rw [if_pos (by rfl)]
    go_simp
    go_at_call 95
    refine (HO _ _ _ hO).mono ?_
    rintro o Y ⟨rfl, hb⟩
    replace hH : Below w.heap.size w Y ∧ Y.heap[w.heap.size]? = some (.cells (vrow 66 p.at) 61) ∧ Y.heap[w.heap.size + 1]? = some (.cells (vrow 3 (drAt x y n)) 66) := ⟨hH.1.trans (hb.mono hH.1.size), row_next hb hH.2.1, row_next hb hH.2.2⟩
    clear hb
    refine hK.out _ _ hH (fun hH => ?_)
    clear hK K
    (try simp only [List.getElem_toArray, List.getElem_cons_succ, List.getElem_cons_zero, Act.put, List.setIfInBounds_toArray, List.set_cons_succ, List.set_cons_zero])
    refine wpAnyH_take (i := 4) (v := .bool (hasD L x y n)) rfl (by kernel_rfl) (by kernel_rfl) (by kernel_rfl) (fun _ _ _ h => by cases h.1) (.inl ⟨by kernel_rfl, fun w _ => by go_simp⟩) hH ?_
    (try simp only [List.getElem_toArray, List.getElem_cons_succ, List.getElem_cons_zero, Act.put, List.setIfInBounds_toArray, List.set_cons_succ, List.set_cons_zero])
    refine wpAnyH_take (i := 5) (v := .int .i64 0) rfl (by kernel_rfl) (by kernel_rfl) (by kernel_rfl) (fun _ _ _ h => by cases h.1) (.inl ⟨by kernel_rfl, fun w _ => by go_simp⟩) hH ?_
    (try simp only [List.getElem_toArray, List.getElem_cons_succ, List.getElem_cons_zero, Act.put, List.setIfInBounds_toArray, List.set_cons_succ, List.set_cons_zero])
    refine wpAnyH_done (by kernel_rfl) ?_ _
    exact ⟨rfl, ⟨_, rfl⟩, hH.1⟩
  rintro e1 a1 W1 ⟨rfl, ⟨v, rfl⟩, hB1⟩
  go_wp2
  go_ret2
  exact ⟨rfl, hB1⟩
set_option maxHeartbeats 2000000 in
theorem specCb_bad (p : Pic) (x y n : Int) (hf : p.fit) (hx : -128 ≤ x ∧ x ≤ 127) (hy : -128 ≤ y ∧ y ≤ 127) (w : World) (h1 : okP p = false) : Calls Tryd.prog 39 #[.agg p.row, .agg (vrow 3 (drAt x y n))] w fun o w' => o = .returned (.tuple #[.bool false, .int .i64 1]) ∧ Below w.heap.size w w' := by
  have HO := Go.Lib.hid fun w' h => okP_from w' p w.heap.size w' h hf (Below.refl _ _)
  rw [h1] at HO
  have P : Hid (((w.alloc (.cells (vrow 66 p.at) 61)).alloc (.cells (vrow 3 (drAt x y n)) 66)).heap[w.heap.size]? = some (.cells (vrow 66 p.at) 61)) := (heap_past _ _ _ _ (by simp <;> omega) (heap_at _ _ _ (by simp)))
  have R : Hid (((w.alloc (.cells (vrow 66 p.at) 61)).alloc (.cells (vrow 3 (drAt x y n)) 66)).heap[w.heap.size + 1]? = some (.cells (vrow 3 (drAt x y n)) 66)) := (heap_at _ _ _ (by simp))
  have hB : Hid (Below w.heap.size w ((w.alloc (.cells (vrow 66 p.at) 61)).alloc (.cells (vrow 3 (drAt x y n)) 66))) := Go.Lib.hid (((Below.refl w.heap.size w).alloc (by simp <;> omega) _).alloc (by simp <;> omega) _)
  go_enter Tryd.func39, Tryd.ntmps39
  go_wp2_with (first
    | go_skip
    | ((with_reducible refine wlAt 8 rfl ?_); refine wpList_ldm 66 (.tmp 3) rfl (by first | exact want_n rfl | exact want_g _ _ _ rfl rfl rfl) (w.heap.size + 1) _ rfl 3 3 (drAt x y n) _ rw_dr size_dr R.out (by omega) ?_; rw [dr_row0])
    | ((with_reducible refine wlAt 13 rfl ?_); refine wpList_ldm 66 (.tmp 3) rfl (by first | exact want_n rfl | exact want_g _ _ _ rfl rfl rfl) (w.heap.size + 1) _ rfl 3 3 (drAt x y n) _ rw_dr size_dr R.out (by omega) ?_; rw [dr_row0])
    | (go_at_call 83; (refine (HO.out _ P.out).mono ?_); rintro o w1 ⟨rfl, hb⟩; replace P := Go.Lib.hid (row_next hb P.out); replace R := Go.Lib.hid (row_next hb R.out); replace hB := Go.Lib.hid (below_next hB.out hb); clear hb))
  go_ret2
  exact ⟨rfl, hB.out⟩
set_option maxHeartbeats 2000000 in
theorem specCb_rng (p : Pic) (x y n : Int) (hf : p.fit) (hx : -128 ≤ x ∧ x ≤ 127) (hy : -128 ≤ y ∧ y ≤ 127) (w : World) (h1 : okP p = true) (h2 : canB p x y n = false) : Calls Tryd.prog 39 #[.agg p.row, .agg (vrow 3 (drAt x y n))] w fun o w' => o = .returned (.tuple #[.bool false, .int .i64 2]) ∧ Below w.heap.size w w' := by
  have HO := Go.Lib.hid fun w' h => okP_from w' p w.heap.size w' h hf (Below.refl _ _)
  rw [h1] at HO
  have HC := Go.Lib.hid fun w' h => lcan_any p w.heap.size x y n w' h hf hx hy
  rw [h2] at HC
  have P : Hid (((w.alloc (.cells (vrow 66 p.at) 61)).alloc (.cells (vrow 3 (drAt x y n)) 66)).heap[w.heap.size]? = some (.cells (vrow 66 p.at) 61)) := (heap_past _ _ _ _ (by simp <;> omega) (heap_at _ _ _ (by simp)))
  have R : Hid (((w.alloc (.cells (vrow 66 p.at) 61)).alloc (.cells (vrow 3 (drAt x y n)) 66)).heap[w.heap.size + 1]? = some (.cells (vrow 3 (drAt x y n)) 66)) := (heap_at _ _ _ (by simp))
  have hB : Hid (Below w.heap.size w ((w.alloc (.cells (vrow 66 p.at) 61)).alloc (.cells (vrow 3 (drAt x y n)) 66))) := Go.Lib.hid (((Below.refl w.heap.size w).alloc (by simp <;> omega) _).alloc (by simp <;> omega) _)
  go_enter Tryd.func39, Tryd.ntmps39
  go_wp2_with (first
    | go_skip
    | ((with_reducible refine wlAt 8 rfl ?_); refine wpList_ldm 66 (.tmp 3) rfl (by first | exact want_n rfl | exact want_g _ _ _ rfl rfl rfl) (w.heap.size + 1) _ rfl 3 3 (drAt x y n) _ rw_dr size_dr R.out (by omega) ?_; rw [dr_row0])
    | ((with_reducible refine wlAt 13 rfl ?_); refine wpList_ldm 66 (.tmp 3) rfl (by first | exact want_n rfl | exact want_g _ _ _ rfl rfl rfl) (w.heap.size + 1) _ rfl 3 3 (drAt x y n) _ rw_dr size_dr R.out (by omega) ?_; rw [dr_row0])
    | (go_at_call 83; (refine (HO.out _ P.out).mono ?_); rintro o w1 ⟨rfl, hb⟩; replace P := Go.Lib.hid (row_next hb P.out); replace R := Go.Lib.hid (row_next hb R.out); replace hB := Go.Lib.hid (below_next hB.out hb); clear hb)
    | (go_at_call 84; (refine (HC.out _ P.out).mono ?_); rintro o w1 ⟨rfl, hb⟩; replace P := Go.Lib.hid (row_next hb P.out); replace R := Go.Lib.hid (row_next hb R.out); replace hB := Go.Lib.hid (below_next hB.out hb); clear hb))
  go_ret2
  exact ⟨rfl, hB.out⟩
theorem built_openC : Tryd.prog.built 153 [] = some (vrow 64 (offF fun _ => false)) := by kernel_rfl
set_option maxHeartbeats 4000000 in
theorem specCb_ok (p : Pic) (a c i j k : Nat) (hf : p.fit) (h1 : okP p = true) (h2 : canB p i j k = true) (ea : p.wide = a) (ec : p.high = c) (ha : a ≤ 8) (hc : c ≤ 8) (hi : i < 8) (hj : j < 8) (hk : k ≤ 2) (w : World) : Calls Tryd.prog 39 #[.agg p.row, .agg (vrow 3 (drAt i j k))] w fun o w' => o = .returned (.tuple #[.bool (lpP p k (cov a c i j)), .int .i64 0]) ∧ Below w.heap.size w w' := by
  have HO := Go.Lib.hid fun w' h => okP_from w' p w.heap.size w' h hf (Below.refl _ _)
  rw [h1] at HO
  have HC := Go.Lib.hid fun w' h => lcan_any p w.heap.size i j k w' h hf (by omega) (by omega)
  rw [h2] at HC
  have HP := Go.Lib.hid fun bo w' hs ho => lpeels_any p (fun _ => false) w.heap.size bo a c i j k w' hs ho hf (okP_no4 hf h1) ea ec ha hc hi hj hk
  rw [comb_no] at HP
  generalize lpP p k (cov a c i j) = r at *
  have P : Hid (((w.alloc (.cells (vrow 66 p.at) 61)).alloc (.cells (vrow 3 (drAt i j k)) 66)).heap[w.heap.size]? = some (.cells (vrow 66 p.at) 61)) := (heap_past _ _ _ _ (by simp <;> omega) (heap_at _ _ _ (by simp)))
  have R : Hid (((w.alloc (.cells (vrow 66 p.at) 61)).alloc (.cells (vrow 3 (drAt i j k)) 66)).heap[w.heap.size + 1]? = some (.cells (vrow 3 (drAt i j k)) 66)) := (heap_at _ _ _ (by simp))
  have hB : Hid (Below w.heap.size w ((w.alloc (.cells (vrow 66 p.at) 61)).alloc (.cells (vrow 3 (drAt i j k)) 66))) := Go.Lib.hid (((Below.refl w.heap.size w).alloc (by simp <;> omega) _).alloc (by simp <;> omega) _)
  go_enter Tryd.func39, Tryd.ntmps39
  go_wp2_with (first
    | go_skip
    | ((with_reducible refine wlAt 8 rfl ?_); refine wpList_ldm 66 (.tmp 3) rfl (by first | exact want_n rfl | exact want_g _ _ _ rfl rfl rfl) (w.heap.size + 1) _ rfl 3 3 (drAt i j k) _ rw_dr size_dr R.out (by omega) ?_; rw [dr_row0])
    | (go_at_call 83; (refine (HO.out _ P.out).mono ?_); rintro o w1 ⟨rfl, hb⟩; replace P := Go.Lib.hid (row_next hb P.out); replace R := Go.Lib.hid (row_next hb R.out); replace hB := Go.Lib.hid (below_next hB.out hb); clear hb)
    | (go_at_call 84; (refine (HC.out _ P.out).mono ?_); rintro o w1 ⟨rfl, hb⟩; replace P := Go.Lib.hid (row_next hb P.out); replace R := Go.Lib.hid (row_next hb R.out); replace hB := Go.Lib.hid (below_next hB.out hb); clear hb)
    | ((with_reducible refine wlAt 11 rfl ?_); refine wpList_built rfl 153 [] rfl [] (by rfl) _ built_openC ?_)
    | ((with_reducible refine wlAt 13 rfl ?_); have O := Go.Lib.hid (heap_at w1 (.cells (vrow 64 (offF fun _ => false)) 153) _ rfl); replace P := Go.Lib.hid (heap_past w1 (.cells (vrow 64 (offF fun _ => false)) 153) _ _ (row_lt P.out) P.out); replace R := Go.Lib.hid (heap_past w1 (.cells (vrow 64 (offF fun _ => false)) 153) _ _ (row_lt R.out) R.out); replace hB := Go.Lib.hid (hB.out.alloc hB.out.size (.cells (vrow 64 (offF fun _ => false)) 153)); refine wpList_ldm 66 (.tmp 3) rfl (by first | exact want_n rfl | exact want_g _ _ _ rfl rfl rfl) (w.heap.size + 1) _ rfl 3 3 (drAt i j k) _ rw_dr size_dr R.out (by omega) ?_; rw [dr_row0])
    | (go_at_call 93; (refine (HP.out _ _ P.out O.out).mono ?_); rintro o w1 ⟨rfl, hb⟩; clear O; replace P := Go.Lib.hid (row_next hb P.out); replace R := Go.Lib.hid (row_next hb R.out); replace hB := Go.Lib.hid (below_next hB.out hb); clear hb))
  go_ret2
  exact ⟨rfl, hB.out⟩
end Go.Proofs.YtfgcpiipndhllaaDoor
