import Derived.Deep.RegionHeld3
import Derived.Test.YtgbhchmpeioaiaaDoorG1
import Derived.Test.YtgbhchmpeioaiaaDoorUntil
import Derived.Test.YtgbhchmpeioaiaaDoorPlain
namespace Go.Proofs.YtgbhchmpeioaiaaDoor
open Go.RowKit
set_option maxRecDepth 100000
set_option linter.unusedVariables false
set_option linter.unusedSimpArgs false
set_option maxHeartbeats 2000000 in
theorem specOnce_bad (s : Sh) (w : World) (hf : s.fit) (ho : okI s = false) : Calls Tryd.prog 36 #[.agg s.row] w fun o w' => o = .returned (.tuple #[.agg Sh.zero.row, .int .i64 0, .int .i64 1]) ∧ Below w.heap.size w w' := by
  have HO0 := fun b w hs => ok_any s b w hs hf
  rw [← ok_eq s hf, ho] at HO0
  have HO := Go.Lib.hid HO0
  clear HO0 hf ho
  have zz := zero_sheet
  have hB : Hid (Below w.heap.size w ((w.alloc (.cells (vrow 266 s.at) 35)).alloc (.cells (vrow 266 Sh.zero.at) 35))) := (((Below.refl w.heap.size w).alloc (by simp <;> omega) _).alloc (by simp <;> omega) _)
  have P : Hid (((w.alloc (.cells (vrow 266 s.at) 35)).alloc (.cells (vrow 266 Sh.zero.at) 35)).heap[(w.heap.size)]? = some (.cells (vrow 266 s.at) 35)) := heap_past _ _ _ _ (by first | omega | (simp <;> omega)) (heap_at _ _ _ (by simp))
  have Z : Hid (((w.alloc (.cells (vrow 266 s.at) 35)).alloc (.cells (vrow 266 Sh.zero.at) 35)).heap[(w.heap.size + 1)]? = some (.cells (vrow 266 Sh.zero.at) 35)) := heap_at _ _ _ (by simp)
  go_enter Tryd.func36, Tryd.ntmps36
  go_wp2_with (first
    | go_skip
    | (go_at_call 47; (refine (HO.out _ _ P.out).mono ?_; rintro e w1 ⟨rfl, hb⟩; replace P := Go.Lib.hid (row_next hb P.out); replace Z := Go.Lib.hid (row_next hb Z.out); replace hB := Go.Lib.hid (below_next hB.out hb); clear hb))
    | (with_reducible refine wlAt 9 rfl ?_; refine wpList_built rfl 35 [] rfl [] (by rfl) _ built_zero ?_)
    | (with_reducible refine wlOp (.store 35 (.tmp 2) (.tmp 9)) rfl ?_; refine wpList_storeall rfl 35 (.tmp 2) (.tmp 9) rfl (w.heap.size + 1) rfl 266 Sh.zero.at Sh.zero.at rfl 35 size_sheet Z.out (fun i _ => Sh.one _ i) ?_; replace Z := Go.Lib.hid (row_set Z.out (vrow 266 Sh.zero.at)); replace hB := Go.Lib.hid (Below_setRow hB.out (show w.heap.size ≤ w.heap.size + 1 by omega) (vrow 266 Sh.zero.at))))
  exact ret_row3 Tryd.results36 (w.heap.size + 1) 266 Sh.zero.at 35 _ Tryd.underlying35 rfl size_sheet (.int .i64 0) (.int .i64 1) rfl rfl rfl rfl Z.out ⟨rfl, hB.out⟩
set_option maxHeartbeats 2000000 in
theorem specOnce_ok (s : Sh) (a c : Nat) (w : World) (ea : s.wide = a) (ec : s.high = c) (ha : 1 ≤ a ∧ a ≤ 8) (hc : 1 ≤ c ∧ c ≤ 8) (hf : s.fit) (ho : okI s = true) (hi : InkOk s) : Calls Tryd.prog 36 #[.agg s.row] w fun o w' => o = .returned (.tuple #[.agg (runS s (cellsL a c)).1.row, .int .i64 (runS s (cellsL a c)).2, .int .i64 0]) ∧ Below w.heap.size w w' := by
  have HO0 := fun b w hs => ok_any s b w hs hf
  rw [← ok_eq s hf, ho] at HO0
  have HO := Go.Lib.hid HO0
  have HL := Go.Lib.hid fun w => lrun_any s a c w ea ec ha hc ho hi hf
  clear HO0 hf ho hi ea ec ha hc
  generalize runS s (cellsL a c) = TN at *
  obtain ⟨T, k⟩ := TN
  have zz := zero_sheet
  have hB : Hid (Below w.heap.size w ((w.alloc (.cells (vrow 266 s.at) 35)).alloc (.cells (vrow 266 Sh.zero.at) 35))) := (((Below.refl w.heap.size w).alloc (by simp <;> omega) _).alloc (by simp <;> omega) _)
  have P : Hid (((w.alloc (.cells (vrow 266 s.at) 35)).alloc (.cells (vrow 266 Sh.zero.at) 35)).heap[(w.heap.size)]? = some (.cells (vrow 266 s.at) 35)) := heap_past _ _ _ _ (by first | omega | (simp <;> omega)) (heap_at _ _ _ (by simp))
  have Z : Hid (((w.alloc (.cells (vrow 266 s.at) 35)).alloc (.cells (vrow 266 Sh.zero.at) 35)).heap[(w.heap.size + 1)]? = some (.cells (vrow 266 Sh.zero.at) 35)) := heap_at _ _ _ (by simp)
  go_enter Tryd.func36, Tryd.ntmps36
  go_wp2_with (first
    | go_skip
    | (go_at_call 47; (refine (HO.out _ _ P.out).mono ?_; rintro e w1 ⟨rfl, hb⟩; replace P := Go.Lib.hid (row_next hb P.out); replace Z := Go.Lib.hid (row_next hb Z.out); replace hB := Go.Lib.hid (below_next hB.out hb); clear hb))
    | (with_reducible refine wlAt 11 rfl ?_; refine wpList_loadall rfl 35 (.tmp 1) rfl _ rfl 266 s.at 35 _ Tryd.underlying35 rfl size_sheet P.out ?_)
    | (go_at_call 74; (refine (HL.out _).mono ?_; rintro e w2 ⟨rfl, hb⟩; replace P := Go.Lib.hid (row_next hb P.out); replace Z := Go.Lib.hid (row_next hb Z.out); replace hB := Go.Lib.hid (below_next hB.out hb); clear hb))
    | (with_reducible refine wlOp (.store 35 (.tmp 5) (.tmp 13)) rfl ?_; refine wpList_storeall rfl 35 (.tmp 5) (.tmp 13) rfl _ rfl 266 Sh.zero.at T.at rfl 35 size_sheet (heap_at _ _ _ rfl) (fun i _ => Sh.one _ i) ?_; rw [setRow_at _ _ _ _ _ rfl]; have V := Go.Lib.hid (heap_at w2 (.cells (vrow 266 T.at) 35) _ rfl); have nP := row_lt P.out; have nZ := row_lt Z.out; replace P := Go.Lib.hid (heap_past _ (.cells (vrow 266 T.at) 35) _ _ nP P.out); replace Z := Go.Lib.hid (heap_past _ (.cells (vrow 266 T.at) 35) _ _ nZ Z.out); replace hB := Go.Lib.hid (hB.out.alloc hB.out.size (.cells (vrow 266 T.at) 35)); generalize w2.heap.size = nb at V nP nZ ⊢; generalize w2.alloc _ = w3 at P Z V hB ⊢)
    | (with_reducible refine wlAt 15 rfl ?_; refine wpList_loadall rfl 35 (.tmp 5) rfl _ rfl 266 T.at 35 _ Tryd.underlying35 rfl size_sheet V.out ?_)
    | (with_reducible refine wlOp (.store 35 (.tmp 2) (.tmp 15)) rfl ?_; refine wpList_storeall rfl 35 (.tmp 2) (.tmp 15) rfl (w.heap.size + 1) rfl 266 Sh.zero.at T.at rfl 35 size_sheet Z.out (fun i _ => Sh.one _ i) ?_; replace Z := Go.Lib.hid (row_set Z.out (vrow 266 T.at)); replace hB := Go.Lib.hid (Below_setRow hB.out (show w.heap.size ≤ w.heap.size + 1 by omega) (vrow 266 T.at))))
  exact ret_row3 Tryd.results36 (w.heap.size + 1) 266 T.at 35 _ Tryd.underlying35 rfl size_sheet (.int .i64 k) (.int .i64 0) rfl rfl rfl rfl Z.out ⟨rfl, hB.out⟩
set_option maxHeartbeats 2000000 in
theorem lrounds_bad (s : Sh) (b : Nat) (k : Int) (w : World) (hs : w.heap[b]? = some (.cells (vrow 266 s.at) 35)) (hf : s.fit) (ho : okI s = false) : Calls Tryd.prog 75 #[.pointer (some ⟨b, 0, none⟩), .int .i64 k] w fun o w' => o = .returned (.int .i64 1) ∧ Below w.heap.size w w' := by
  have HO0 := fun b w hs => ok_any s b w hs hf
  rw [← ok_eq s hf, ho] at HO0
  have HO := Go.Lib.hid HO0
  clear HO0 hf ho
  have hB : Hid (Below w.heap.size w w) := Go.Lib.hid (Below.refl _ _)
  have P := Go.Lib.hid hs
  clear hs
  go_enter Tryd.func75, Tryd.ntmps75
  go_wp2_with (first
    | go_skip
    | (go_at_call 47; (refine (HO.out _ _ P.out).mono ?_; rintro e w1 ⟨rfl, hb⟩; replace P := Go.Lib.hid (row_next hb P.out); replace hB := Go.Lib.hid (below_next hB.out hb); clear hb)))
  go_ret
  exact ⟨rfl, hB.out⟩
set_option maxHeartbeats 2000000 in
theorem lrounds_rng (s : Sh) (b : Nat) (k : Int) (w : World) (hs : w.heap[b]? = some (.cells (vrow 266 s.at) 35)) (hf : s.fit) (ho : okI s = true) (hk : k < 0 ∨ 500 < k) : Calls Tryd.prog 75 #[.pointer (some ⟨b, 0, none⟩), .int .i64 k] w fun o w' => o = .returned (.int .i64 2) ∧ Below w.heap.size w w' := by
  have HO0 := fun b w hs => ok_any s b w hs hf
  rw [← ok_eq s hf, ho] at HO0
  have HO := Go.Lib.hid HO0
  have HI := Go.Lib.hid fun w => in_no k 0 500 hk w
  clear HO0 hf ho hk
  have hB : Hid (Below w.heap.size w w) := Go.Lib.hid (Below.refl _ _)
  have P := Go.Lib.hid hs
  clear hs
  go_enter Tryd.func75, Tryd.ntmps75
  go_wp2_with (first
    | go_skip
    | (go_at_call 47; (refine (HO.out _ _ P.out).mono ?_; rintro e w1 ⟨rfl, hb⟩; replace P := Go.Lib.hid (row_next hb P.out); replace hB := Go.Lib.hid (below_next hB.out hb); clear hb))
    | (go_at_call 71; (refine (HI.out _).mono ?_; rintro e w2 ⟨rfl, hb⟩; replace P := Go.Lib.hid (row_next hb P.out); replace hB := Go.Lib.hid (below_next hB.out hb); clear hb)))
  go_ret
  exact ⟨rfl, hB.out⟩
set_option maxHeartbeats 2000000 in
theorem lrounds_ok (s : Sh) (b : Nat) (k : Int) (w : World) (hs : w.heap[b]? = some (.cells (vrow 266 s.at) 35)) (hf : s.fit) (ho : okI s = true) (hk : 0 ≤ k ∧ k ≤ 500) : Calls Tryd.prog 75 #[.pointer (some ⟨b, 0, none⟩), .int .i64 k] w fun o w' => o = .returned (.int .i64 0) ∧ Below w.heap.size w w' := by
  have HO0 := fun b w hs => ok_any s b w hs hf
  rw [← ok_eq s hf, ho] at HO0
  have HO := Go.Lib.hid HO0
  have HI := Go.Lib.hid fun w => in_yes k 0 500 hk.1 hk.2 w
  clear HO0 hf ho hk
  have hB : Hid (Below w.heap.size w w) := Go.Lib.hid (Below.refl _ _)
  have P := Go.Lib.hid hs
  clear hs
  go_enter Tryd.func75, Tryd.ntmps75
  go_wp2_with (first
    | go_skip
    | (go_at_call 47; (refine (HO.out _ _ P.out).mono ?_; rintro e w1 ⟨rfl, hb⟩; replace P := Go.Lib.hid (row_next hb P.out); replace hB := Go.Lib.hid (below_next hB.out hb); clear hb))
    | (go_at_call 71; (refine (HI.out _).mono ?_; rintro e w2 ⟨rfl, hb⟩; replace P := Go.Lib.hid (row_next hb P.out); replace hB := Go.Lib.hid (below_next hB.out hb); clear hb)))
  go_ret
  exact ⟨rfl, hB.out⟩
/-- so many rounds, and what they have given together -/
def roundsS (s : Sh) (l : List Sp8) : Nat → Sh × Int → Sh × Int
  | 0, X => X
  | n + 1, X => roundsS s l n ((l.foldl (cellRun s) (X.1, 0)).1, X.2 + (l.foldl (cellRun s) (X.1, 0)).2)
set_option maxHeartbeats 2000000 in
theorem specRR_bad (s : Sh) (k : Int) (c : Nat) (w : World) (hc : c = 1 ∨ c = 2) (HC0 : ∀ b w, w.heap[b]? = some (.cells (vrow 266 s.at) 35) → Calls Tryd.prog 75 #[.pointer (some ⟨b, 0, none⟩), .int .i64 k] w fun e w' => e = .returned (.int .i64 c) ∧ Below w.heap.size w w') : Calls Tryd.prog 38 #[.agg s.row, .int .i64 k] w fun o w' => o = .returned (.tuple #[.agg Sh.zero.row, .int .i64 0, .int .i64 c]) ∧ Below w.heap.size w w' := by
  have HC := Go.Lib.hid HC0
  clear HC0
  rcases hc with rfl | rfl
  all_goals
    have zz := zero_sheet
    have hB : Hid (Below w.heap.size w ((w.alloc (.cells (vrow 266 s.at) 35)).alloc (.cells (vrow 266 Sh.zero.at) 35))) := (((Below.refl w.heap.size w).alloc (by simp <;> omega) _).alloc (by simp <;> omega) _)
    have P : Hid (((w.alloc (.cells (vrow 266 s.at) 35)).alloc (.cells (vrow 266 Sh.zero.at) 35)).heap[(w.heap.size)]? = some (.cells (vrow 266 s.at) 35)) := heap_past _ _ _ _ (by first | omega | (simp <;> omega)) (heap_at _ _ _ (by simp))
    have Z : Hid (((w.alloc (.cells (vrow 266 s.at) 35)).alloc (.cells (vrow 266 Sh.zero.at) 35)).heap[(w.heap.size + 1)]? = some (.cells (vrow 266 Sh.zero.at) 35)) := heap_at _ _ _ (by simp)
    go_enter Tryd.func38, Tryd.ntmps38
    go_wp2_with (first
      | go_skip
      | (go_at_call 75; (refine (HC.out _ _ P.out).mono ?_; rintro e w1 ⟨rfl, hb⟩; replace P := Go.Lib.hid (row_next hb P.out); replace Z := Go.Lib.hid (row_next hb Z.out); replace hB := Go.Lib.hid (below_next hB.out hb); clear hb))
      | (with_reducible refine wlAt 16 rfl ?_; refine wpList_built rfl 35 [] rfl [] (by rfl) _ built_zero ?_)
      | (with_reducible refine wlOp (.store 35 (.tmp 4) (.tmp 16)) rfl ?_; refine wpList_storeall rfl 35 (.tmp 4) (.tmp 16) rfl (w.heap.size + 1) rfl 266 Sh.zero.at Sh.zero.at rfl 35 size_sheet Z.out (fun i _ => Sh.one _ i) ?_; replace Z := Go.Lib.hid (row_set Z.out (vrow 266 Sh.zero.at)); replace hB := Go.Lib.hid (Below_setRow hB.out (show w.heap.size ≤ w.heap.size + 1 by omega) (vrow 266 Sh.zero.at))))
    exact ret_row3 Tryd.results38 (w.heap.size + 1) 266 Sh.zero.at 35 _ Tryd.underlying35 rfl size_sheet (.int .i64 0) (.int .i64 _) rfl rfl rfl rfl Z.out ⟨rfl, hB.out⟩
set_option maxHeartbeats 4000000 in
theorem specRR_ok (s : Sh) (k : Int) (a c : Nat) (w : World) (ea : s.wide = a) (ec : s.high = c) (ha : 1 ≤ a ∧ a ≤ 8) (hc : 1 ≤ c ∧ c ≤ 8) (hf : s.fit) (ho : okI s = true) (hi : InkOk s) (hk : 0 ≤ k ∧ k ≤ 500) : Calls Tryd.prog 38 #[.agg s.row, .int .i64 k] w fun o w' => o = .returned (.tuple #[.agg (roundsS s (cellsL a c) k.toNat (s, 0)).1.row, .int .i64 (roundsS s (cellsL a c) k.toNat (s, 0)).2, .int .i64 0]) ∧ Below w.heap.size w w' := by
  have HC := Go.Lib.hid fun b w hs => lrounds_ok s b k w hs hf ho hk
  obtain ⟨K, rfl⟩ : ∃ K : Nat, k = K := ⟨k.toNat, by omega⟩
  have hK : K ≤ 500 := by omega
  clear hk
  have HL := Go.Lib.hid fun (T : Sh) (hT : Gd s T) w => lrun_any T a c w (by rw [hT.wide, ea]) (by rw [hT.high, ec]) ha hc hT.ok hT.ink hT.fit
  have hmem : ∀ p ∈ cellsL a c, hasB s p.1.1 p.1.2 = true := fun p hp => by
    have h2 : p.1 ∈ pairsL a c := by rw [← cellsL_val a c (by omega) c (by omega)]; exact List.mem_map_of_mem hp
    obtain ⟨h3, h4⟩ := pairsL_mem h2
    unfold hasB
    simp; omega
  have hn : (cellsL a c).length = a * c := cellsL_length a c
  have hac : a * c ≤ 64 := Nat.mul_le_mul ha.2 hc.2
  have HGd := Go.Lib.hid fun T hT => runS_gd ho (cellsL a c) hmem (T, 0) hT
  have hst : Gd s s := Gd.start ho hi hf
  clear ea ec ha hc hf ho hi hmem
  rw [show ((K : Int)).toNat = K from rfl]
  generalize cellsL a c = L at *
  have zz := zero_sheet
  have hB : Hid (Below w.heap.size w ((w.alloc (.cells (vrow 266 s.at) 35)).alloc (.cells (vrow 266 Sh.zero.at) 35))) := (((Below.refl w.heap.size w).alloc (by simp <;> omega) _).alloc (by simp <;> omega) _)
  have P : Hid (((w.alloc (.cells (vrow 266 s.at) 35)).alloc (.cells (vrow 266 Sh.zero.at) 35)).heap[(w.heap.size)]? = some (.cells (vrow 266 s.at) 35)) := heap_past _ _ _ _ (by first | omega | (simp <;> omega)) (heap_at _ _ _ (by simp))
  have Z : Hid (((w.alloc (.cells (vrow 266 s.at) 35)).alloc (.cells (vrow 266 Sh.zero.at) 35)).heap[(w.heap.size + 1)]? = some (.cells (vrow 266 Sh.zero.at) 35)) := heap_at _ _ _ (by simp)
  go_enter Tryd.func38, Tryd.ntmps38
  go_wp2_with (first
    | go_skip
    | (go_at_call 75; (refine (HC.out _ _ P.out).mono ?_; rintro e w1 ⟨rfl, hb⟩; replace P := Go.Lib.hid (row_next hb P.out); replace Z := Go.Lib.hid (row_next hb Z.out); replace hB := Go.Lib.hid (below_next hB.out hb); clear hb)))
  go_loopw [8, 9] (fun sv kv wr => ∃ (n : Nat) (T : Sh) (m : Int), n ≤ K ∧ kv = .int .i64 n ∧ sv = .int .i64 m ∧ 0 ≤ m ∧ m ≤ 256 * (n : Int) ∧ wr.heap[w.heap.size]? = some (.cells (vrow 266 T.at) 35) ∧ wr.heap[w.heap.size + 1]? = some (.cells (vrow 266 Sh.zero.at) 35) ∧ Gd s T ∧ roundsS s L (K - n) (T, m) = roundsS s L K (s, 0) ∧ Below w.heap.size w wr) (fun _ kv _ => K - (intOf kv).toNat)
  case atStart => exact ⟨0, s, 0, by omega, rfl, rfl, by omega, by omega, P.out, Z.out, hst, rfl, hB.out⟩
  case round =>
    clear P Z hB hst
    obtain ⟨n, T, m, hnK, rfl, rfl, hm0, hm1, P, Z, hT, hU, hB⟩ := hrel
    by_cases h : n < K
    · obtain ⟨hT2, g1, g2⟩ := HGd.out T hT
      have HLT0 := fun w => HL.out T hT w
      rw [runS_like hT] at HLT0
      rw [show K - n = (K - (n + 1)) + 1 by omega, show roundsS s L ((K - (n + 1)) + 1) (T, m) = roundsS s L (K - (n + 1)) ((L.foldl (cellRun s) (T, 0)).1, m + (L.foldl (cellRun s) (T, 0)).2) from rfl] at hU
      generalize L.foldl (cellRun s) (T, 0) = TN at *
      obtain ⟨T', k⟩ := TN
      change Gd s T' at hT2
      change (0 : Int) ≤ k at g1
      change k ≤ (0 : Int) + 4 * (L.length : Int) at g2
      change roundsS s L (K - (n + 1)) (T', m + k) = _ at hU
      have HLT := Go.Lib.hid HLT0
      have HU := Go.Lib.hid hU
      clear HLT0 hU
      replace P := Go.Lib.hid P; replace Z := Go.Lib.hid Z; replace hB := Go.Lib.hid hB
      have hsz := hB.out.size
      have hd : decide ((n : Int) < (K : Int)) = true := by simp; omega
      go_wp2_with (first
        | go_skip
        | (with_reducible refine wlAt 24 rfl ?_; refine wpList_loadall rfl 35 (.tmp 2) rfl _ rfl 266 T.at 35 _ Tryd.underlying35 rfl size_sheet P.out ?_)
        | (go_at_call 74; (refine (HLT.out _).mono ?_; rintro e w2 ⟨rfl, hb⟩; replace P := Go.Lib.hid (row_next hb P.out); replace Z := Go.Lib.hid (row_next hb Z.out); replace hB := Go.Lib.hid (below_next hB.out hb); clear hb))
        | (with_reducible refine wlOp (.store 35 (.tmp 10) (.tmp 26)) rfl ?_; refine wpList_storeall rfl 35 (.tmp 10) (.tmp 26) rfl _ rfl 266 Sh.zero.at T'.at rfl 35 size_sheet (heap_at _ _ _ rfl) (fun i _ => Sh.one _ i) ?_; rw [setRow_at _ _ _ _ _ rfl]; have V := Go.Lib.hid (heap_at w2 (.cells (vrow 266 T'.at) 35) _ rfl); have nP := row_lt P.out; have nZ := row_lt Z.out; replace P := Go.Lib.hid (heap_past _ (.cells (vrow 266 T'.at) 35) _ _ nP P.out); replace Z := Go.Lib.hid (heap_past _ (.cells (vrow 266 T'.at) 35) _ _ nZ Z.out); replace hB := Go.Lib.hid (hB.out.alloc hB.out.size (.cells (vrow 266 T'.at) 35)); generalize w2.heap.size = nb at V nP nZ ⊢; generalize w2.alloc _ = w3 at P Z V hB ⊢)
        | (with_reducible refine wlAt 28 rfl ?_; refine wpList_loadall rfl 35 (.tmp 10) rfl nb rfl 266 T'.at 35 _ Tryd.underlying35 rfl size_sheet V.out ?_)
        | (with_reducible refine wlOp (.store 35 (.tmp 2) (.tmp 28)) rfl ?_; refine wpList_storeall rfl 35 (.tmp 2) (.tmp 28) rfl (w.heap.size) rfl 266 T.at T'.at rfl 35 size_sheet P.out (fun i _ => Sh.one _ i) ?_; replace Z := Go.Lib.hid (row_set' (g := w.heap.size) (show w.heap.size + 1 ≠ w.heap.size by omega) Z.out (vrow 266 T'.at)); replace P := Go.Lib.hid (row_set P.out (vrow 266 T'.at)); replace hB := Go.Lib.hid (Below_setRow hB.out (Nat.le_refl _) (vrow 266 T'.at))))
      go_roundw
      case rel => exact ⟨n + 1, T', m + k, by omega, by go_num, by go_num, by omega, by omega, P.out, Z.out, hT2, HU.out, hB.out⟩
      case measure => simp [intOf]; omega
    · have hnk : n = K := by omega
      subst hnk
      rw [show n - n = 0 by omega, show roundsS s L 0 (T, m) = (T, m) from rfl] at hU
      have HU := Go.Lib.hid hU
      clear hU
      replace P := Go.Lib.hid P; replace Z := Go.Lib.hid Z; replace hB := Go.Lib.hid hB
      have hd : decide ((n : Int) < (n : Int)) = false := by simp
      go_wp2_with (first
        | go_skip
        | (with_reducible refine wlAt 32 rfl ?_; refine wpList_loadall rfl 35 (.tmp 2) rfl _ rfl 266 T.at 35 _ Tryd.underlying35 rfl size_sheet P.out ?_)
        | (with_reducible refine wlOp (.store 35 (.tmp 4) (.tmp 32)) rfl ?_; refine wpList_storeall rfl 35 (.tmp 4) (.tmp 32) rfl (w.heap.size + 1) rfl 266 Sh.zero.at T.at rfl 35 size_sheet Z.out (fun i _ => Sh.one _ i) ?_; replace Z := Go.Lib.hid (row_set Z.out (vrow 266 T.at)); replace hB := Go.Lib.hid (Below_setRow hB.out (show w.heap.size ≤ w.heap.size + 1 by omega) (vrow 266 T.at))))
      exact ret_row3 Tryd.results38 (w.heap.size + 1) 266 T.at 35 _ Tryd.underlying35 rfl size_sheet (.int .i64 m) (.int .i64 0) rfl rfl rfl rfl Z.out ⟨by rw [← HU.out], hB.out⟩
end Go.Proofs.YtgbhchmpeioaiaaDoor
