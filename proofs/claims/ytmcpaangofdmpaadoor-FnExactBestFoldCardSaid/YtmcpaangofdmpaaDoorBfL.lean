import Derived.Test.YtmcpaangofdmpaaDoorBfM
import Derived.Test.YtmcpaangofdmpaaDoorCodeOf
import Derived.Test.YtmcpaangofdmpaaDoorPrK
namespace Go.Proofs.YtmcpaangofdmpaaDoor
open Go.RowKit
set_option maxRecDepth 100000
set_option linter.unusedVariables false
set_option linter.unusedSimpArgs false
theorem size_func1 : (Tryd.prog.info? 104).map (·.size) = some 1 := by kernel_rfl
set_option maxHeartbeats 2000000 in
theorem implBf_bad (s : Sh) (hf : s.fit) (ho : okI s = false) (er : ErrE) (w : World) (hE : Errs er w) : Calls Tryd.prog 29 #[.agg s.row] w fun e w' => e = .returned (.tuple #[.agg (vrow 3 (foAt 0 false 0)), .int .i64 (0), .int .i64 1]) ∧ Below w.heap.size w w' := by
  have HC := Go.Lib.hid fun w hE => checkSheet_bad s ho er w hE
  have HK := Go.Lib.hid fun w hE => codeOf_1 er w hE
  have zf := zero_foldB
  have P : Hid (((w.alloc (.cells (vrow 266 s.at) 34)).alloc (.cells (vrow 3 (foAt 0 false 0)) 38)).heap[w.heap.size]? = some (.cells (vrow 266 s.at) 34)) := (heap_past _ _ _ _ (by simp <;> omega) (heap_at _ _ _ (by simp)))
  have Z : Hid (((w.alloc (.cells (vrow 266 s.at) 34)).alloc (.cells (vrow 3 (foAt 0 false 0)) 38)).heap[w.heap.size + 1]? = some (.cells (vrow 3 (foAt 0 false 0)) 38)) := (heap_at _ _ _ (by simp))
  have hB : Hid (Below w.heap.size w ((w.alloc (.cells (vrow 266 s.at) 34)).alloc (.cells (vrow 3 (foAt 0 false 0)) 38))) := Go.Lib.hid (((Below.refl w.heap.size w).alloc (by simp <;> omega) _).alloc (by simp <;> omega) _)
  have E : Hid (Errs er ((w.alloc (.cells (vrow 266 s.at) 34)).alloc (.cells (vrow 3 (foAt 0 false 0)) 38))) := Go.Lib.hid ((hE.alloc _).alloc _)
  go_enter Tryd.func29, Tryd.ntmps29
  go_wp2_with (first
    | go_skip
    | ((with_reducible refine wlAt 9 rfl ?_); refine wpList_loadall rfl 34 (.tmp 1) rfl w.heap.size rfl 266 s.at 34 _ Tryd.underlying34 rfl size_sheet P.out ?_)
    | (go_at_call 62; (refine (HC.out _ E.out).mono ?_); rintro o w1 ⟨rfl, hb⟩; replace P := Go.Lib.hid (row_next hb P.out); replace Z := Go.Lib.hid (row_next hb Z.out); replace E := Go.Lib.hid (E.out.next hb); replace hB := Go.Lib.hid (below_next hB.out hb); clear hb)
    | (go_at_call 63; (refine (HK.out _ E.out).mono ?_); rintro o w1 ⟨rfl, hb⟩; replace P := Go.Lib.hid (row_next hb P.out); replace Z := Go.Lib.hid (row_next hb Z.out); replace E := Go.Lib.hid (E.out.next hb); replace hB := Go.Lib.hid (below_next hB.out hb); clear hb)
    | ((with_reducible refine wlOp (.store 38 (.tmp 2) (.tmp 13)) rfl ?_); refine wpList_storeall rfl 38 (.tmp 2) (.tmp 13) rfl (w.heap.size + 1) rfl 3 (foAt 0 false 0) (foAt 0 false 0) rfl 38 size_fold Z.out (fun i _ => foAt_oneB _ _ _ i) ?_; replace Z := Go.Lib.hid (row_set Z.out (vrow 3 (foAt 0 false 0))); replace hB := Go.Lib.hid (Below_setRow hB.out (show w.heap.size ≤ w.heap.size + 1 by omega) (vrow 3 (foAt 0 false 0)))))
  exact ret_row3 Tryd.results29 (w.heap.size + 1) 3 (foAt 0 false 0) 38 _ Tryd.underlying38 rfl size_fold (.int .i64 (0)) (.int .i64 1) rfl rfl rfl rfl Z.out ⟨rfl, hB.out⟩
set_option maxHeartbeats 2000000 in
theorem implBf_none (s : Sh) (a c : Nat) (hf : s.fit) (ho : okI s = true) (ea : s.wide = a) (ec : s.high = c) (ha : 1 ≤ a ∧ a ≤ 8) (hc : 1 ≤ c ∧ c ≤ 8) (h0 : (folA a c).length = 0) (er : ErrE) (w : World) (hE : Errs er w) : Calls Tryd.prog 29 #[.agg s.row] w fun e w' => e = .returned (.tuple #[.agg (vrow 3 (foAt 0 false 0)), .int .i64 (0), .int .i64 6]) ∧ Below w.heap.size w w' := by
  have HC := Go.Lib.hid fun w hE => checkSheet_ok s ho er w hE
  have HL := Go.Lib.hid fun w => folds_any s a c w ea ec ha hc
  have zf := zero_foldB
  generalize folA a c = L at *
  have P : Hid (((w.alloc (.cells (vrow 266 s.at) 34)).alloc (.cells (vrow 3 (foAt 0 false 0)) 38)).heap[w.heap.size]? = some (.cells (vrow 266 s.at) 34)) := (heap_past _ _ _ _ (by simp <;> omega) (heap_at _ _ _ (by simp)))
  have Z : Hid (((w.alloc (.cells (vrow 266 s.at) 34)).alloc (.cells (vrow 3 (foAt 0 false 0)) 38)).heap[w.heap.size + 1]? = some (.cells (vrow 3 (foAt 0 false 0)) 38)) := (heap_at _ _ _ (by simp))
  have hB : Hid (Below w.heap.size w ((w.alloc (.cells (vrow 266 s.at) 34)).alloc (.cells (vrow 3 (foAt 0 false 0)) 38))) := Go.Lib.hid (((Below.refl w.heap.size w).alloc (by simp <;> omega) _).alloc (by simp <;> omega) _)
  have E : Hid (Errs er ((w.alloc (.cells (vrow 266 s.at) 34)).alloc (.cells (vrow 3 (foAt 0 false 0)) 38))) := Go.Lib.hid ((hE.alloc _).alloc _)
  go_enter Tryd.func29, Tryd.ntmps29
  go_wp2_with (first
    | go_skip
    | ((with_reducible refine wlAt 9 rfl ?_); refine wpList_loadall rfl 34 (.tmp 1) rfl w.heap.size rfl 266 s.at 34 _ Tryd.underlying34 rfl size_sheet P.out ?_)
    | ((with_reducible refine wlAt 16 rfl ?_); refine wpList_loadall rfl 34 (.tmp 1) rfl w.heap.size rfl 266 s.at 34 _ Tryd.underlying34 rfl size_sheet P.out ?_)
    | (go_at_call 62; (refine (HC.out _ E.out).mono ?_); rintro o w1 ⟨rfl, hb⟩; replace P := Go.Lib.hid (row_next hb P.out); replace Z := Go.Lib.hid (row_next hb Z.out); replace E := Go.Lib.hid (E.out.next hb); replace hB := Go.Lib.hid (below_next hB.out hb); clear hb)
    | (go_at_call 64; (refine (HL.out _).mono ?_); rintro o w3 ⟨v, rfl, hO, hb⟩; have hPF := own_pf hO; replace P := Go.Lib.hid (row_next hb P.out); replace Z := Go.Lib.hid (row_next hb Z.out); replace hB := Go.Lib.hid (below_next hB.out hb); clear hb hO; obtain ⟨ao, cp, rfl, hr⟩ := hPF; rw [h0])
    | ((with_reducible refine wlOp (.store 38 (.tmp 2) (.tmp 21)) rfl ?_); refine wpList_storeall rfl 38 (.tmp 2) (.tmp 21) rfl (w.heap.size + 1) rfl 3 (foAt 0 false 0) (foAt 0 false 0) rfl 38 size_fold Z.out (fun i _ => foAt_oneB _ _ _ i) ?_; replace Z := Go.Lib.hid (row_set Z.out (vrow 3 (foAt 0 false 0))); replace hB := Go.Lib.hid (Below_setRow hB.out (show w.heap.size ≤ w.heap.size + 1 by omega) (vrow 3 (foAt 0 false 0)))))
  exact ret_row3 Tryd.results29 (w.heap.size + 1) 3 (foAt 0 false 0) 38 _ Tryd.underlying38 rfl size_fold (.int .i64 (0)) (.int .i64 6) rfl rfl rfl rfl Z.out ⟨rfl, hB.out⟩
set_option maxRecDepth 100000 in
set_option maxHeartbeats 4000000 in
theorem implBf_ok (s : Sh) (a c : Nat) (hf : s.fit) (ho : okI s = true) (ea : s.wide = a) (ec : s.high = c) (ha : 1 ≤ a ∧ a ≤ 8) (hc : 1 ≤ c ∧ c ≤ 8) (h0 : 0 < (folA a c).length) (er : ErrE) (w : World) (hE : Errs er w) : Calls Tryd.prog 29 #[.agg s.row] w fun e w' => e = .returned (.tuple #[.agg (vrow 3 (foAt (bst (offF s a c) (folA a c) ((folA a c).length - 1)).1 (bst (offF s a c) (folA a c) ((folA a c).length - 1)).2.1 (bst (offF s a c) (folA a c) ((folA a c).length - 1)).2.2)), .int .i64 (offF s a c (bst (offF s a c) (folA a c) ((folA a c).length - 1))), .int .i64 0]) ∧ Below w.heap.size w w' := by
  have HC := Go.Lib.hid fun w hE => checkSheet_ok s ho er w hE
  have HL := Go.Lib.hid fun w => folds_any s a c w ea ec ha hc
  have hbm := bst_mem (offF s a c) (folA a c) ((folA a c).length - 1) (by omega)
  have hok := fun t (h : t ∈ folA a c) => folA_ok ea ec ha hc h
  have hl64 : (folA a c).length ≤ 64 := by rw [folA_len]; omega
  have hF1 := fun t (h : t ∈ folA a c) W hb => bf1_any s t.1 t.2.1 t.2.2 a c w.heap.size W hb hf (by rw [ho, (hok t h).1]; rfl) ho (hok t h).2 ea ec ha.2 hc.2
  have zf := zero_foldB
  have hmf : ∀ (fn : Fn) (first cap : Array Value) (w : World), (Instr.makeFunc fn first cap).run Tryd.prog w = .ok (.func fn first cap) w := fun _ _ _ _ => rfl
  have HM := fun v B b7 W (hP : PF W v (folA a c) B) (hs : W.heap[w.heap.size]? = some (.cells (vrow 266 s.at) 34)) (h7 : W.heap[b7]? = some (.cells (vrow 1 fun _ => .func (.func 65) #[] #[.pointer (some ⟨w.heap.size, 0, none⟩)]) 104)) => minF_any (offF s a c) (folA a c) v B b7 W h0 hl64 hP (fun t u W2 ht hu hb2 => bf2_any s t u _ _ w.heap.size b7 W2 (row_next hb2 hs) (row_next hb2 h7) (fun W3 h => hF1 t ht W3 h) (fun W3 h => hF1 u hu W3 h))
  have HFB := Go.Lib.hid (hF1 _ hbm)
  clear hF1 hok ea ec
  generalize (bst (offF s a c) (folA a c) ((folA a c).length - 1)) = bk at *
  generalize folA a c = L at *
  replace HM := Go.Lib.hid HM
  have P : Hid (((w.alloc (.cells (vrow 266 s.at) 34)).alloc (.cells (vrow 3 (foAt 0 false 0)) 38)).heap[w.heap.size]? = some (.cells (vrow 266 s.at) 34)) := (heap_past _ _ _ _ (by simp <;> omega) (heap_at _ _ _ (by simp)))
  have Z : Hid (((w.alloc (.cells (vrow 266 s.at) 34)).alloc (.cells (vrow 3 (foAt 0 false 0)) 38)).heap[w.heap.size + 1]? = some (.cells (vrow 3 (foAt 0 false 0)) 38)) := (heap_at _ _ _ (by simp))
  have hB : Hid (Below w.heap.size w ((w.alloc (.cells (vrow 266 s.at) 34)).alloc (.cells (vrow 3 (foAt 0 false 0)) 38))) := Go.Lib.hid (((Below.refl w.heap.size w).alloc (by simp <;> omega) _).alloc (by simp <;> omega) _)
  have E : Hid (Errs er ((w.alloc (.cells (vrow 266 s.at) 34)).alloc (.cells (vrow 3 (foAt 0 false 0)) 38))) := Go.Lib.hid ((hE.alloc _).alloc _)
  have h0d : ((L.length : Int) == 0) = false := by rw [beq_eq_false_iff_ne]; omega
  have hz0 := row_lt Z.out
  go_enter Tryd.func29, Tryd.ntmps29
  go_wp2_with (first
    | go_skip
    | ((with_reducible refine wlAt 9 rfl ?_); refine wpList_loadall rfl 34 (.tmp 1) rfl w.heap.size rfl 266 s.at 34 _ Tryd.underlying34 rfl size_sheet P.out ?_)
    | ((with_reducible refine wlAt 16 rfl ?_); refine wpList_loadall rfl 34 (.tmp 1) rfl w.heap.size rfl 266 s.at 34 _ Tryd.underlying34 rfl size_sheet P.out ?_)
    | (go_at_call 62; (refine (HC.out _ E.out).mono ?_); rintro o w1 ⟨rfl, hb⟩; replace hz0 := Nat.lt_of_lt_of_le hz0 hb.size; replace P := Go.Lib.hid (row_next hb P.out); replace Z := Go.Lib.hid (row_next hb Z.out); replace E := Go.Lib.hid (E.out.next hb); replace hB := Go.Lib.hid (below_next hB.out hb); clear hb)
    | (go_at_call 64; (refine (HL.out _).mono ?_); rintro o w3 ⟨v, rfl, hO, hb⟩; have hPF := own_pf hO; replace P := Go.Lib.hid (row_next hb P.out); replace Z := Go.Lib.hid (row_next hb Z.out); replace hB := Go.Lib.hid (below_next hB.out hb); replace hz0 := Nat.lt_of_lt_of_le hz0 hb.size; clear hb hO; obtain ⟨ao, cp, rfl, hr⟩ := hPF; have HPF := Go.Lib.hid (show PF w3 (.slice ao L.length cp) L _ from ⟨ao, cp, rfl, hr⟩); clear hr)
    | ((with_reducible refine wlOp (.store 104 (.tmp 7) (.tmp 22)) rfl ?_); refine wpList_store1 rfl 104 (.tmp 7) (.tmp 22) rfl w3.heap.size 0 rfl 1 (fun _ => .nilFunc) (.func (.func 65) #[] #[.pointer (some ⟨w.heap.size, 0, none⟩)]) rfl 104 size_func1 (heap_at w3 _ _ rfl) (by omega) rfl ?_; rw [vrow_over_all, setRow_at _ _ _ _ _ rfl]; have C := Go.Lib.hid (heap_at w3 (.cells (vrow 1 fun _ => .func (.func 65) #[] #[.pointer (some ⟨w.heap.size, 0, none⟩)]) 104) _ rfl); replace P := Go.Lib.hid (heap_past w3 (.cells (vrow 1 fun _ => .func (.func 65) #[] #[.pointer (some ⟨w.heap.size, 0, none⟩)]) 104) _ _ (row_lt P.out) P.out); replace Z := Go.Lib.hid (heap_past w3 (.cells (vrow 1 fun _ => .func (.func 65) #[] #[.pointer (some ⟨w.heap.size, 0, none⟩)]) 104) _ _ (row_lt Z.out) Z.out); replace HPF := Go.Lib.hid (HPF.out.next ((Below.refl _ _).alloc (Nat.le_refl _) (.cells (vrow 1 fun _ => .func (.func 65) #[] #[.pointer (some ⟨w.heap.size, 0, none⟩)]) 104))); replace hB := Go.Lib.hid (hB.out.alloc hB.out.size (.cells (vrow 1 fun _ => .func (.func 65) #[] #[.pointer (some ⟨w.heap.size, 0, none⟩)]) 104)); obtain ⟨cb7, hcb⟩ : ∃ z, w3.heap.size = z := ⟨_, rfl⟩; rw [hcb] at C hz0 ⊢; generalize World.alloc w3 _ = W4 at C P Z HPF hB ⊢; clear hcb)
    | (go_at_call 68; (refine (HM.out _ _ cb7 _ HPF.out P.out C.out).mono ?_); rintro o w5 ⟨rfl, hb⟩; replace P := Go.Lib.hid (row_next hb P.out); replace Z := Go.Lib.hid (row_next hb Z.out); replace C := Go.Lib.hid (row_next hb C.out); have hz1 := Nat.lt_of_lt_of_le (row_lt C.out) (Nat.le_refl _); replace hB := Go.Lib.hid (below_next hB.out hb); clear hb)
    | ((with_reducible refine wlOp (.store 38 (.tmp 8) (.tmp 25)) rfl ?_); refine wpList_storeall rfl 38 (.tmp 8) (.tmp 25) rfl w5.heap.size rfl 3 (foAt 0 false 0) (foAt bk.1 bk.2.1 bk.2.2) rfl 38 size_fold (heap_at w5 _ _ rfl) (fun i _ => foAt_oneB _ _ _ i) ?_; rw [setRow_at _ _ _ _ _ rfl]; have X := Go.Lib.hid (heap_at w5 (.cells (vrow 3 (foAt bk.1 bk.2.1 bk.2.2)) 38) _ rfl); replace P := Go.Lib.hid (heap_past w5 (.cells (vrow 3 (foAt bk.1 bk.2.1 bk.2.2)) 38) _ _ (row_lt P.out) P.out); replace Z := Go.Lib.hid (heap_past w5 (.cells (vrow 3 (foAt bk.1 bk.2.1 bk.2.2)) 38) _ _ (row_lt Z.out) Z.out); replace C := Go.Lib.hid (heap_past w5 (.cells (vrow 3 (foAt bk.1 bk.2.1 bk.2.2)) 38) _ _ (row_lt C.out) C.out); replace hB := Go.Lib.hid (hB.out.alloc hB.out.size (.cells (vrow 3 (foAt bk.1 bk.2.1 bk.2.2)) 38)); obtain ⟨xb, hxb⟩ : ∃ z, w5.heap.size = z := ⟨_, rfl⟩; rw [hxb] at X hz1 ⊢; generalize World.alloc w5 _ = W6 at C P Z X hB ⊢; clear hxb))
  refine Code.wp_mono (Q := fun e a' W' => e = .normal ∧ a'.tmps.getD 2 undef = .pointer (some ⟨w.heap.size + 1, 0, none⟩) ∧ a'.tmps.getD 3 undef = .int .i64 (offF s a c bk) ∧ a'.tmps.getD 4 undef = .int .i64 0 ∧ a'.defers = [] ∧ Below w.heap.size w W' ∧ W'.heap[w.heap.size + 1]? = some (.cells (vrow 3 (foAt bk.1 bk.2.1 bk.2.2)) 38)) ?_ ?_
  rotate_left
  · refine wp_region_held_drew (S := fun X => X.heap[xb]? = some (.cells (vrow 3 (foAt bk.1 bk.2.1 bk.2.2)) 38) ∧ X.heap[cb7]? = some (.cells (vrow 1 fun _ => .func (.func 65) #[] #[.pointer (some ⟨w.heap.size, 0, none⟩)]) 104) ∧ X.heap[w.heap.size]? = some (.cells (vrow 266 s.at) 34) ∧ Below w.heap.size w X) (by kernel_rfl) ⟨drwP X.out, drwP C.out, drwP P.out, hB.out.drew⟩ (fun hH => ?_)
    have V := drwP Z.out
    clear hB P X C Z
    generalize World.drew _ = W at hH V ⊢
    refine wpAnyH_take (i := 0) (v := (.agg (vrow 3 (foAt bk.1 bk.2.1 bk.2.2)))) rfl (by kernel_rfl) (by kernel_rfl) (by kernel_rfl) (fun _ _ _ h => by cases h.1) (yields_row (by kernel_rfl) 38 _ rfl xb rfl 3 (foAt bk.1 bk.2.1 bk.2.2) 38 _ Tryd.underlying38 rfl size_fold (fun _ h => h.1)) hH ?_
    (try simp only [List.getElem_toArray, List.getElem_cons_succ, List.getElem_cons_zero, Act.put, List.setIfInBounds_toArray, List.set_cons_succ, List.set_cons_zero])
    refine wpAnyH_take (i := 1) (v := (.func (.func 65) #[] #[.pointer (some ⟨w.heap.size, 0, none⟩)])) rfl (by kernel_rfl) (by kernel_rfl) (by kernel_rfl) (fun _ _ _ h => by cases h.1) (yields_one (by kernel_rfl) 104 _ rfl cb7 0 rfl 1 (fun _ => .func (.func 65) #[] #[.pointer (some ⟨w.heap.size, 0, none⟩)]) 104 _ Tryd.underlying104 rfl (by omega) (fun _ h => h.2.1)) hH ?_
    (try simp only [List.getElem_toArray, List.getElem_cons_succ, List.getElem_cons_zero, Act.put, List.setIfInBounds_toArray, List.set_cons_succ, List.set_cons_zero])
    refine wpAnyH_take (i := 2) (v := (.agg (vrow 3 (foAt bk.1 bk.2.1 bk.2.2)))) rfl (by kernel_rfl) (by kernel_rfl) (by kernel_rfl) (fun _ _ _ h => by cases h.1) (yields_row (by kernel_rfl) 38 _ rfl xb rfl 3 (foAt bk.1 bk.2.1 bk.2.2) 38 _ Tryd.underlying38 rfl size_fold (fun _ h => h.1)) hH ?_
    (try simp only [List.getElem_toArray, List.getElem_cons_succ, List.getElem_cons_zero, Act.put, List.setIfInBounds_toArray, List.set_cons_succ, List.set_cons_zero])
    refine wpAnyH_ready (rs := [3]) (by kernel_rfl) (by simp) (AllReadyH.cons rfl (fun K hK => ?_) (AllReadyH.nil))
    rw [if_pos (by rfl)]
    go_simp
    go_at_call 65
    refine (HFB.out _ hH.2.2.1).mono ?_
    rintro o Y ⟨rfl, hb⟩
    replace hH : Y.heap[xb]? = some (.cells (vrow 3 (foAt bk.1 bk.2.1 bk.2.2)) 38) ∧ Y.heap[cb7]? = some (.cells (vrow 1 fun _ => .func (.func 65) #[] #[.pointer (some ⟨w.heap.size, 0, none⟩)]) 104) ∧ Y.heap[w.heap.size]? = some (.cells (vrow 266 s.at) 34) ∧ Below w.heap.size w Y := ⟨row_next hb hH.1, row_next hb hH.2.1, row_next hb hH.2.2.1, hH.2.2.2.trans (hb.mono hH.2.2.2.size)⟩
    replace V := row_next hb V
    clear hb
    refine hK.out _ _ hH (fun hH => ?_)
    clear hK K
    (try simp only [List.getElem_toArray, List.getElem_cons_succ, List.getElem_cons_zero, Act.put, List.setIfInBounds_toArray, List.set_cons_succ, List.set_cons_zero])
    refine wpAnyH_ready (rs := [4]) (by kernel_rfl) (by simp) (AllReadyH.cons rfl (fun K hK => ?_) (AllReadyH.nil))
    rw [if_pos (by rfl)]
    unfold Oper.wp
    rw [run_storemid 38 (.tmp 2) (.tmp 26) rfl (w.heap.size + 1) 0 rfl 3 3 (foAt 0 false 0) (foAt bk.1 bk.2.1 bk.2.2) rfl 38 size_fold V (by omega) (fun i _ => foAt_oneB _ _ _ i), vrow_over_all, Oper.upon_skip]
    replace V := row_set V (vrow 3 (foAt bk.1 bk.2.1 bk.2.2))
    have hH2 : (Y.setRow (w.heap.size + 1) (vrow 3 (foAt bk.1 bk.2.1 bk.2.2))).heap[xb]? = some (.cells (vrow 3 (foAt bk.1 bk.2.1 bk.2.2)) 38) ∧ (Y.setRow (w.heap.size + 1) (vrow 3 (foAt bk.1 bk.2.1 bk.2.2))).heap[cb7]? = some (.cells (vrow 1 fun _ => .func (.func 65) #[] #[.pointer (some ⟨w.heap.size, 0, none⟩)]) 104) ∧ (Y.setRow (w.heap.size + 1) (vrow 3 (foAt bk.1 bk.2.1 bk.2.2))).heap[w.heap.size]? = some (.cells (vrow 266 s.at) 34) ∧ Below w.heap.size w (Y.setRow (w.heap.size + 1) (vrow 3 (foAt bk.1 bk.2.1 bk.2.2))) := ⟨row_set' (g := w.heap.size + 1) (by omega) hH.1 _, row_set' (g := w.heap.size + 1) (by omega) hH.2.1 _, row_set' (g := w.heap.size + 1) (by omega) hH.2.2.1 _, Below_setRow hH.2.2.2 (show w.heap.size ≤ w.heap.size + 1 by omega) _⟩
    refine hK.out _ _ hH2 (fun hH => ?_)
    clear hK K hH2
    (try simp only [List.getElem_toArray, List.getElem_cons_succ, List.getElem_cons_zero, Act.put, List.setIfInBounds_toArray, List.set_cons_succ, List.set_cons_zero])
    refine wpAnyH_take (i := 5) (v := (.int .i64 (offF s a c bk))) rfl (by kernel_rfl) (by kernel_rfl) (by kernel_rfl) (fun _ _ _ h => by cases h.1) (.inl ⟨by kernel_rfl, fun w hw => by go_simp⟩) hH ?_
    (try simp only [List.getElem_toArray, List.getElem_cons_succ, List.getElem_cons_zero, Act.put, List.setIfInBounds_toArray, List.set_cons_succ, List.set_cons_zero])
    refine wpAnyH_take (i := 6) (v := (.int .i64 0)) rfl (by kernel_rfl) (by kernel_rfl) (by kernel_rfl) (fun _ _ _ h => by cases h.1) (.inl ⟨by kernel_rfl, fun w hw => by go_simp⟩) hH ?_
    (try simp only [List.getElem_toArray, List.getElem_cons_succ, List.getElem_cons_zero, Act.put, List.setIfInBounds_toArray, List.set_cons_succ, List.set_cons_zero])
    refine wpAnyH_done (by kernel_rfl) ?_ _
    exact ⟨rfl, rfl, rfl, rfl, rfl, hH.2.2.2, V⟩
  rintro e1 a1 W1 ⟨rfl, h2, h3, h4, hdf, hB1, V⟩
  go_wp2
  exact ret_row3 Tryd.results29 (w.heap.size + 1) 3 (foAt bk.1 bk.2.1 bk.2.2) 38 _ Tryd.underlying38 rfl size_fold _ _ h2 h3 h4 hdf V ⟨rfl, hB1⟩
end Go.Proofs.YtmcpaangofdmpaaDoor
