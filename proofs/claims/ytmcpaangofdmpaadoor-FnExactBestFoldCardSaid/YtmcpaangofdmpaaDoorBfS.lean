import Derived.Test.YtmcpaangofdmpaaDoorBfM
import Derived.Test.YtmcpaangofdmpaaDoorLOff
import Derived.Test.YtmcpaangofdmpaaDoorOkEq
namespace Go.Proofs.YtmcpaangofdmpaaDoor
open Go.RowKit
set_option maxRecDepth 100000
set_option linter.unusedVariables false
set_option linter.unusedSimpArgs false
def mostF (s : Sh) (a c : Nat) (t : Int × Bool × Int) : Int := oM (gq s t.1 t.2.1 (prsL s a c t.1 t.2.1)) (prsL s a c t.1 t.2.1).length
set_option maxHeartbeats 2000000 in
theorem specBf_bad (s : Sh) (hf : s.fit) (ho : okI s = false) (w : World) : Calls Tryd.prog 28 #[.agg s.row] w fun e w' => e = .returned (.tuple #[.agg (vrow 3 (foAt 0 false 0)), .int .i64 (0), .int .i64 1]) ∧ Below w.heap.size w w' := by
  have HO := Go.Lib.hid fun W h => ok_any s w.heap.size W h hf
  rw [← ok_eq s hf, ho] at HO
  have zf := zero_foldB
  have P : Hid (((w.alloc (.cells (vrow 266 s.at) 34)).alloc (.cells (vrow 3 (foAt 0 false 0)) 38)).heap[w.heap.size]? = some (.cells (vrow 266 s.at) 34)) := (heap_past _ _ _ _ (by simp <;> omega) (heap_at _ _ _ (by simp)))
  have Z : Hid (((w.alloc (.cells (vrow 266 s.at) 34)).alloc (.cells (vrow 3 (foAt 0 false 0)) 38)).heap[w.heap.size + 1]? = some (.cells (vrow 3 (foAt 0 false 0)) 38)) := (heap_at _ _ _ (by simp))
  have hB : Hid (Below w.heap.size w ((w.alloc (.cells (vrow 266 s.at) 34)).alloc (.cells (vrow 3 (foAt 0 false 0)) 38))) := Go.Lib.hid (((Below.refl w.heap.size w).alloc (by simp <;> omega) _).alloc (by simp <;> omega) _)
  have hz0 := row_lt Z.out
  go_enter Tryd.func28, Tryd.ntmps28
  go_wp2_with (first
    | go_skip
    | (go_at_call 50; (refine (HO.out _ P.out).mono ?_); rintro o w1 ⟨rfl, hb⟩; replace P := Go.Lib.hid (row_next hb P.out); replace Z := Go.Lib.hid (row_next hb Z.out); replace hz0 := Nat.lt_of_lt_of_le hz0 hb.size; replace hB := Go.Lib.hid (below_next hB.out hb); clear hb)
    | ((with_reducible refine wlOp (.store 38 (.tmp 2) (.tmp 14)) rfl ?_); refine wpList_storeall rfl 38 (.tmp 2) (.tmp 14) rfl (w.heap.size + 1) rfl 3 (foAt 0 false 0) (foAt 0 false 0) rfl 38 size_fold Z.out (fun i _ => foAt_oneB _ _ _ i) ?_; replace Z := Go.Lib.hid (row_set Z.out (vrow 3 (foAt 0 false 0))); replace hB := Go.Lib.hid (Below_setRow hB.out (show w.heap.size ≤ w.heap.size + 1 by omega) (vrow 3 (foAt 0 false 0)))))
  exact ret_row3 Tryd.results28 (w.heap.size + 1) 3 (foAt 0 false 0) 38 _ Tryd.underlying38 rfl size_fold (.int .i64 (0)) (.int .i64 1) rfl rfl rfl rfl Z.out ⟨rfl, hB.out⟩
set_option maxHeartbeats 2000000 in
theorem specBf_none (s : Sh) (a c : Nat) (hf : s.fit) (ho : okI s = true) (ea : s.wide = a) (ec : s.high = c) (ha : 1 ≤ a ∧ a ≤ 8) (hc : 1 ≤ c ∧ c ≤ 8) (h0 : (folA a c).length = 0) (w : World) : Calls Tryd.prog 28 #[.agg s.row] w fun e w' => e = .returned (.tuple #[.agg (vrow 3 (foAt 0 false 0)), .int .i64 (0), .int .i64 6]) ∧ Below w.heap.size w w' := by
  have HO := Go.Lib.hid fun W h => ok_any s w.heap.size W h hf
  rw [← ok_eq s hf, ho] at HO
  have zf := zero_foldB
  have HN := Go.Lib.hid fun W h => lfolds_any s w.heap.size a c W h ea ec ha hc
  generalize folA a c = L at *
  have P : Hid (((w.alloc (.cells (vrow 266 s.at) 34)).alloc (.cells (vrow 3 (foAt 0 false 0)) 38)).heap[w.heap.size]? = some (.cells (vrow 266 s.at) 34)) := (heap_past _ _ _ _ (by simp <;> omega) (heap_at _ _ _ (by simp)))
  have Z : Hid (((w.alloc (.cells (vrow 266 s.at) 34)).alloc (.cells (vrow 3 (foAt 0 false 0)) 38)).heap[w.heap.size + 1]? = some (.cells (vrow 3 (foAt 0 false 0)) 38)) := (heap_at _ _ _ (by simp))
  have hB : Hid (Below w.heap.size w ((w.alloc (.cells (vrow 266 s.at) 34)).alloc (.cells (vrow 3 (foAt 0 false 0)) 38))) := Go.Lib.hid (((Below.refl w.heap.size w).alloc (by simp <;> omega) _).alloc (by simp <;> omega) _)
  have hz0 := row_lt Z.out
  go_enter Tryd.func28, Tryd.ntmps28
  go_wp2_with (first
    | go_skip
    | (go_at_call 50; (refine (HO.out _ P.out).mono ?_); rintro o w1 ⟨rfl, hb⟩; replace P := Go.Lib.hid (row_next hb P.out); replace Z := Go.Lib.hid (row_next hb Z.out); replace hz0 := Nat.lt_of_lt_of_le hz0 hb.size; replace hB := Go.Lib.hid (below_next hB.out hb); clear hb)
    | (go_at_call 61; (refine (HN.out _ P.out).mono ?_); rintro o w3 ⟨v, rfl, hO, hb⟩; have hPF := own_pf hO; replace P := Go.Lib.hid (row_next hb P.out); replace Z := Go.Lib.hid (row_next hb Z.out); replace hz0 := Nat.lt_of_lt_of_le hz0 hb.size; replace hB := Go.Lib.hid (below_next hB.out hb); clear hb; clear hO; obtain ⟨ao, cp, rfl, hr⟩ := hPF; rw [h0])
    | ((with_reducible refine wlOp (.store 38 (.tmp 2) (.tmp 19)) rfl ?_); refine wpList_storeall rfl 38 (.tmp 2) (.tmp 19) rfl (w.heap.size + 1) rfl 3 (foAt 0 false 0) (foAt 0 false 0) rfl 38 size_fold Z.out (fun i _ => foAt_oneB _ _ _ i) ?_; replace Z := Go.Lib.hid (row_set Z.out (vrow 3 (foAt 0 false 0))); replace hB := Go.Lib.hid (Below_setRow hB.out (show w.heap.size ≤ w.heap.size + 1 by omega) (vrow 3 (foAt 0 false 0)))))
  exact ret_row3 Tryd.results28 (w.heap.size + 1) 3 (foAt 0 false 0) 38 _ Tryd.underlying38 rfl size_fold (.int .i64 (0)) (.int .i64 6) rfl rfl rfl rfl Z.out ⟨rfl, hB.out⟩
set_option maxRecDepth 100000 in
set_option maxHeartbeats 8000000 in
theorem specBf_ok (s : Sh) (a c : Nat) (hf : s.fit) (ho : okI s = true) (ea : s.wide = a) (ec : s.high = c) (ha : 1 ≤ a ∧ a ≤ 8) (hc : 1 ≤ c ∧ c ≤ 8) (h0 : 0 < (folA a c).length) (w : World) : Calls Tryd.prog 28 #[.agg s.row] w fun e w' => e = .returned (.tuple #[.agg (vrow 3 (foAt (bst (offF s a c) (folA a c) ((folA a c).length - 1)).1 (bst (offF s a c) (folA a c) ((folA a c).length - 1)).2.1 (bst (offF s a c) (folA a c) ((folA a c).length - 1)).2.2)), .int .i64 (offF s a c (bst (offF s a c) (folA a c) ((folA a c).length - 1))), .int .i64 0]) ∧ Below w.heap.size w w' := by
  have HO := Go.Lib.hid fun W h => ok_any s w.heap.size W h hf
  rw [← ok_eq s hf, ho] at HO
  have zf := zero_foldB
  have HN := Go.Lib.hid fun W h => lfolds_any s w.heap.size a c W h ea ec ha hc
  have hok := fun t (h : t ∈ folA a c) => folA_ok ea ec ha hc h
  have hl64 : (folA a c).length ≤ 64 := by rw [folA_len]; omega
  have HLO := fun t (h : t ∈ folA a c) W hs => show Calls Tryd.prog 56 #[.pointer (some ⟨w.heap.size, 0, none⟩), .agg (vrow 3 (foAt t.1 t.2.1 t.2.2))] W fun e w' => e = .returned (.tuple #[.int .i64 (offF s a c t), .int .i64 (mostF s a c t)]) ∧ Below W.heap.size W w' from loff_any s w.heap.size a c t.1 t.2.1 t.2.2 W hs hf ho (hok t h).2 ea ec ha hc
  clear hok ea ec
  generalize folA a c = L at *
  have P : Hid (((w.alloc (.cells (vrow 266 s.at) 34)).alloc (.cells (vrow 3 (foAt 0 false 0)) 38)).heap[w.heap.size]? = some (.cells (vrow 266 s.at) 34)) := (heap_past _ _ _ _ (by simp <;> omega) (heap_at _ _ _ (by simp)))
  have Z : Hid (((w.alloc (.cells (vrow 266 s.at) 34)).alloc (.cells (vrow 3 (foAt 0 false 0)) 38)).heap[w.heap.size + 1]? = some (.cells (vrow 3 (foAt 0 false 0)) 38)) := (heap_at _ _ _ (by simp))
  have hB : Hid (Below w.heap.size w ((w.alloc (.cells (vrow 266 s.at) 34)).alloc (.cells (vrow 3 (foAt 0 false 0)) 38))) := Go.Lib.hid (((Below.refl w.heap.size w).alloc (by simp <;> omega) _).alloc (by simp <;> omega) _)
  have hz0 := row_lt Z.out
  have h0d : ((L.length : Int) == 0) = false := by rw [beq_eq_false_iff_ne]; omega
  have hbm := bst_mem (offF s a c) L
  obtain ⟨t0, ht0⟩ : ∃ z, L.getD 0 (0, false, 0) = z := ⟨_, rfl⟩
  have hm0 : t0 ∈ L := by have := hbm 0 h0; rw [bst_0, ht0] at this; exact this
  have HT0 := Go.Lib.hid ht0
  have HO0 := Go.Lib.hid (HLO t0 hm0)
  have hR0 := fun F (hF : rowF F L) => rowF_at hF h0
  rw [ht0] at hR0
  simp only [Nat.zero_mul] at hR0
  clear ht0
  go_enter Tryd.func28, Tryd.ntmps28
  go_wp2_with (first
    | go_skip
    | (go_at_call 50; (refine (HO.out _ P.out).mono ?_); rintro o w1 ⟨rfl, hb⟩; replace P := Go.Lib.hid (row_next hb P.out); replace Z := Go.Lib.hid (row_next hb Z.out); replace hz0 := Nat.lt_of_lt_of_le hz0 hb.size; replace hB := Go.Lib.hid (below_next hB.out hb); clear hb)
    | (go_at_call 61; (refine (HN.out _ P.out).mono ?_); rintro o w3 ⟨v, rfl, hO, hb⟩; have hPF := own_pf hO; replace P := Go.Lib.hid (row_next hb P.out); replace Z := Go.Lib.hid (row_next hb Z.out); replace hz0 := Nat.lt_of_lt_of_le hz0 hb.size; replace hB := Go.Lib.hid (below_next hB.out hb); clear hb; clear hO; obtain ⟨ao, cp, rfl, hr⟩ := hPF; (rcases hr with hr0 | ⟨g, N, F, rfl, hg, hN, hrow, hF⟩; exact absurd hr0 (by omega)); have Gr := Go.Lib.hid hrow; have HR0 := Go.Lib.hid (hR0 F hF); clear hrow)
    | ((with_reducible refine wlAt 22 rfl ?_); refine wpList_loadmid rfl 38 (.tmp 21) rfl g 0 rfl N 3 F 38 _ Tryd.underlying38 rfl size_fold Gr.out (by omega) ?_; rw [HR0.out])
    | ((with_reducible refine wlOp (.store 38 (.tmp 6) (.tmp 22)) rfl ?_); refine wpList_storeall rfl 38 (.tmp 6) (.tmp 22) rfl _ rfl 3 (foAt 0 false 0) (foAt t0.1 t0.2.1 t0.2.2) rfl 38 size_fold (heap_at w3 _ _ rfl) (fun i _ => foAt_oneB _ _ _ i) ?_; rw [setRow_at _ _ _ _ _ rfl]; have X := Go.Lib.hid (heap_at w3 (.cells (vrow 3 (foAt t0.1 t0.2.1 t0.2.2)) 38) _ rfl); replace P := Go.Lib.hid (heap_past w3 (.cells (vrow 3 (foAt t0.1 t0.2.1 t0.2.2)) 38) _ _ (row_lt P.out) P.out); replace Z := Go.Lib.hid (heap_past w3 (.cells (vrow 3 (foAt t0.1 t0.2.1 t0.2.2)) 38) _ _ (row_lt Z.out) Z.out); have hgl := row_lt Gr.out; replace Gr := Go.Lib.hid (heap_past w3 (.cells (vrow 3 (foAt t0.1 t0.2.1 t0.2.2)) 38) _ _ (row_lt Gr.out) Gr.out); replace hB := Go.Lib.hid (hB.out.alloc hB.out.size (.cells (vrow 3 (foAt t0.1 t0.2.1 t0.2.2)) 38)); obtain ⟨xb, hxb⟩ : ∃ z, w3.heap.size = z := ⟨_, rfl⟩; rw [hxb] at X hz0 hgl ⊢; generalize World.alloc w3 _ = W4 at X P Z Gr hB ⊢; clear hxb)
    | ((with_reducible refine wlAt 24 rfl ?_); refine wpList_loadall rfl 38 (.tmp 6) rfl xb rfl 3 (foAt t0.1 t0.2.1 t0.2.2) 38 _ Tryd.underlying38 rfl size_fold X.out ?_)
    | (go_at_call 56; (refine (HO0.out _ P.out).mono ?_); rintro o w5 ⟨rfl, hb⟩; replace P := Go.Lib.hid (row_next hb P.out); replace Z := Go.Lib.hid (row_next hb Z.out); replace X := Go.Lib.hid (row_next hb X.out); replace Gr := Go.Lib.hid (row_next hb Gr.out); replace hB := Go.Lib.hid (below_next hB.out hb); clear hb))
  have Z0 := Z.out; have X0 := X.out; have G0 := Gr.out; have B0 := hB.out; have P0 := P.out
  clear Z X Gr hB P HO0
  go_loopw [7, 9] (fun lv iv wr => ∃ k : Nat, k < L.length ∧ iv = .int .i64 ((k : Int) + 1) ∧ lv = .int .i64 (offF s a c (bst (offF s a c) L k)) ∧ wr.heap[xb]? = some (.cells (vrow 3 (foAt (bst (offF s a c) L k).1 (bst (offF s a c) L k).2.1 (bst (offF s a c) L k).2.2)) 38) ∧ wr.heap[w.heap.size]? = some (.cells (vrow 266 s.at) 34) ∧ wr.heap[w.heap.size + 1]? = some (.cells (vrow 3 (foAt 0 false 0)) 38) ∧ wr.heap[g]? = some (.cells (vrow N F) 38) ∧ Below w.heap.size w wr) (fun _ iv _ => 70 - (intOf iv).toNat)
  case atStart => exact ⟨0, h0, rfl, by rw [bst_0, HT0.out], by rw [bst_0, HT0.out]; exact X0, P0, Z0, G0, B0⟩
  case round =>
    clear X0 Z0 G0 B0 P0
    obtain ⟨k, hk, rfl, rfl, X, P, Z, Gr, hB⟩ := hrel
    by_cases hlt : k + 1 < L.length
    · have hkI : (k : Int) + 1 < (L.length : Int) := by omega
      have hk0 : (0 : Int) ≤ (k : Int) := by omega
      have hkd : decide ((k : Int) + 1 < (L.length : Int)) = true := by simpa using hkI
      have HR := Go.Lib.hid (rowF_at hF hlt)
      have hmem : L.getD (k + 1) (0, false, 0) ∈ L := by rw [List.getD_eq_getElem?_getD, List.getElem?_eq_getElem hlt]; exact List.getElem_mem _
      have HC := Go.Lib.hid (HLO _ hmem)
      have hy := bst_yes (f := offF s a c) (L := L) (k := k); have hno := bst_no (f := offF s a c) (L := L) (k := k)
      generalize bst (offF s a c) L k = bk at *
      generalize L.getD (k + 1) (0, false, 0) = gk at *
      obtain ⟨og, hog⟩ : ∃ z, offF s a c gk = z := ⟨_, rfl⟩
      obtain ⟨ob, hobe⟩ : ∃ z, offF s a c bk = z := ⟨_, rfl⟩
      rw [hog] at HC hy hno
      rw [hobe] at hy hno ⊢
      have HOG := Go.Lib.hid hog; have HOB := Go.Lib.hid hobe
      clear hog hobe
      generalize mostF s a c gk = mg at *
      replace X := Go.Lib.hid X; replace Z := Go.Lib.hid Z; replace Gr := Go.Lib.hid Gr; replace hB := Go.Lib.hid hB; replace P := Go.Lib.hid P
      by_cases hlt2 : og < ob
      · skip
        have hcd : decide (og < ob) = true := by simpa using hlt2
        have HD := Go.Lib.hid (hy hlt2)
        go_wp2_with (first
          | go_skip
          | ((first | (with_reducible refine wlAt 38 rfl ?_) | (with_reducible refine wlAt 48 rfl ?_)); refine wpList_loadmid rfl 38 _ rfl g ((k + 1) * 3) rfl N 3 F 38 _ Tryd.underlying38 rfl size_fold Gr.out (by omega) ?_; rw [HR.out])
          | (go_at_call 56; (refine (HC.out _ P.out).mono ?_); rintro o w5 ⟨rfl, hb⟩; replace P := Go.Lib.hid (row_next hb P.out); replace Z := Go.Lib.hid (row_next hb Z.out); replace X := Go.Lib.hid (row_next hb X.out); replace Gr := Go.Lib.hid (row_next hb Gr.out); replace hB := Go.Lib.hid (below_next hB.out hb); clear hb)
          | ((with_reducible refine wlOp (.store 38 (.tmp 6) (.tmp 48)) rfl ?_); refine wpList_storeall rfl 38 (.tmp 6) (.tmp 48) rfl xb rfl 3 (foAt bk.1 bk.2.1 bk.2.2) (foAt gk.1 gk.2.1 gk.2.2) rfl 38 size_fold X.out (fun i _ => foAt_oneB _ _ _ i) ?_; replace X := Go.Lib.hid (row_set X.out (vrow 3 (foAt gk.1 gk.2.1 gk.2.2))); replace P := Go.Lib.hid (row_set' (g := xb) (by omega) P.out (vrow 3 (foAt gk.1 gk.2.1 gk.2.2))); replace Z := Go.Lib.hid (row_set' (g := xb) (by omega) Z.out (vrow 3 (foAt gk.1 gk.2.1 gk.2.2))); replace Gr := Go.Lib.hid (row_set' (g := xb) (by omega) Gr.out (vrow 3 (foAt gk.1 gk.2.1 gk.2.2))); replace hB := Go.Lib.hid (Below_setRow hB.out (show w.heap.size ≤ xb by omega) (vrow 3 (foAt gk.1 gk.2.1 gk.2.2)))))
        go_roundw
        case rel => exact ⟨k + 1, hlt, by go_num, by rw [HD.out, HOG.out], by rw [HD.out]; exact X.out, P.out, Z.out, Gr.out, hB.out⟩
        case measure => simp [intOf]; omega
      · skip
        have hcd : decide (og < ob) = false := by simpa using hlt2
        have HD := Go.Lib.hid (hno (by omega))
        go_wp2_with (first
          | go_skip
          | ((with_reducible refine wlAt 38 rfl ?_); refine wpList_loadmid rfl 38 _ rfl g ((k + 1) * 3) rfl N 3 F 38 _ Tryd.underlying38 rfl size_fold Gr.out (by omega) ?_; rw [HR.out])
          | (go_at_call 56; (refine (HC.out _ P.out).mono ?_); rintro o w5 ⟨rfl, hb⟩; replace P := Go.Lib.hid (row_next hb P.out); replace Z := Go.Lib.hid (row_next hb Z.out); replace X := Go.Lib.hid (row_next hb X.out); replace Gr := Go.Lib.hid (row_next hb Gr.out); replace hB := Go.Lib.hid (below_next hB.out hb); clear hb))
        go_roundw
        case rel => exact ⟨k + 1, hlt, by go_num, by rw [HD.out, HOB.out], by rw [HD.out]; exact X.out, P.out, Z.out, Gr.out, hB.out⟩
        case measure => simp [intOf]; omega
    · skip
      have hke : L.length - 1 = k := by omega
      have hkd : decide ((k : Int) + 1 < (L.length : Int)) = false := by simp; omega
      obtain ⟨bk, hbk⟩ : ∃ z, bst (offF s a c) L k = z := ⟨_, rfl⟩
      rw [hbk] at X ⊢
      have HBK := Go.Lib.hid (show bst (offF s a c) L (L.length - 1) = bk by rw [hke]; exact hbk)
      clear hbk hke
      obtain ⟨ob, hobe⟩ : ∃ z, offF s a c bk = z := ⟨_, rfl⟩
      rw [hobe]
      have HOB := Go.Lib.hid hobe
      clear hobe
      replace X := Go.Lib.hid X; replace Z := Go.Lib.hid Z; replace hB := Go.Lib.hid hB
      go_wp2_with (first
        | go_skip
        | ((with_reducible refine wlAt 50 rfl ?_); refine wpList_loadall rfl 38 (.tmp 6) rfl xb rfl 3 (foAt bk.1 bk.2.1 bk.2.2) 38 _ Tryd.underlying38 rfl size_fold X.out ?_)
        | ((with_reducible refine wlOp (.store 38 (.tmp 2) (.tmp 50)) rfl ?_); refine wpList_storeall rfl 38 (.tmp 2) (.tmp 50) rfl (w.heap.size + 1) rfl 3 (foAt 0 false 0) (foAt bk.1 bk.2.1 bk.2.2) rfl 38 size_fold Z.out (fun i _ => foAt_oneB _ _ _ i) ?_; replace Z := Go.Lib.hid (row_set Z.out (vrow 3 (foAt bk.1 bk.2.1 bk.2.2))); replace hB := Go.Lib.hid (Below_setRow hB.out (show w.heap.size ≤ w.heap.size + 1 by omega) (vrow 3 (foAt bk.1 bk.2.1 bk.2.2)))))
      exact ret_row3 Tryd.results28 (w.heap.size + 1) 3 (foAt bk.1 bk.2.1 bk.2.2) 38 _ Tryd.underlying38 rfl size_fold (.int .i64 ob) (.int .i64 0) rfl rfl rfl rfl Z.out ⟨by rw [HBK.out, HOB.out], hB.out⟩
end Go.Proofs.YtmcpaangofdmpaaDoor
