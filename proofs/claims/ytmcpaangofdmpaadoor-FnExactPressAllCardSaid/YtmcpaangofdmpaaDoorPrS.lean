import Derived.Test.YtmcpaangofdmpaaDoorPrL
import Derived.Test.YtmcpaangofdmpaaDoorPartS
import Derived.Test.YtmcpaangofdmpaaDoorPrB
namespace Go.Proofs.YtmcpaangofdmpaaDoor
open Go.RowKit
set_option maxRecDepth 100000
set_option linter.unusedVariables false
set_option linter.unusedSimpArgs false
set_option maxHeartbeats 4000000 in
theorem specPO_err (s : Sh) (ax : Int) (d : Bool) (p : Int) (w : World) (hf : s.fit) (hax : -128 ≤ ax ∧ ax ≤ 127) (hap : -128 ≤ p ∧ p ≤ 127) (c : Int) (hc : askC (okI s) (foldOk s ax d p) true = c) (h0 : (c != 0) = true) : Calls Tryd.prog 12 #[.agg s.row, .agg #[.int .i8 ax, .bool d, .int .i8 p]] w fun e w' => e = .returned (.tuple #[.agg Sh.zero.row, .int .i64 0, .int .i64 c]) ∧ Below w.heap.size w w' := by
  have HA := Go.Lib.hid fun W h => asked_any s w.heap.size ax d p true W h hf hax hap
  have e1 : askC (okB s) (foldOk s ax d p) true = c := by rw [← ok_eq s hf]; exact hc
  rw [e1, fo_vrow] at HA
  rw [fo_vrow]
  clear hc e1
  have zz := zero_sheet
  have P : Hid ((((w.alloc (.cells (vrow 266 s.at) 34)).alloc (.cells (vrow 3 (foAt ax d p)) 38)).alloc (.cells (vrow 266 Sh.zero.at) 34)).heap[w.heap.size]? = some (.cells (vrow 266 s.at) 34)) := (heap_past _ _ _ _ (by simp <;> omega) (heap_past _ _ _ _ (by simp <;> omega) (heap_at _ _ _ (by simp))))
  have F : Hid ((((w.alloc (.cells (vrow 266 s.at) 34)).alloc (.cells (vrow 3 (foAt ax d p)) 38)).alloc (.cells (vrow 266 Sh.zero.at) 34)).heap[w.heap.size + 1]? = some (.cells (vrow 3 (foAt ax d p)) 38)) := (heap_past _ _ _ _ (by simp <;> omega) (heap_at _ _ _ (by simp)))
  have Z : Hid ((((w.alloc (.cells (vrow 266 s.at) 34)).alloc (.cells (vrow 3 (foAt ax d p)) 38)).alloc (.cells (vrow 266 Sh.zero.at) 34)).heap[w.heap.size + 2]? = some (.cells (vrow 266 Sh.zero.at) 34)) := (heap_at _ _ _ (by simp))
  have hB : Hid (Below w.heap.size w (((w.alloc (.cells (vrow 266 s.at) 34)).alloc (.cells (vrow 3 (foAt ax d p)) 38)).alloc (.cells (vrow 266 Sh.zero.at) 34))) := Go.Lib.hid ((((Below.refl w.heap.size w).alloc (by simp <;> omega) _).alloc (by simp <;> omega) _).alloc (by simp <;> omega) _)
  go_enter Tryd.func12, Tryd.ntmps12
  go_wp2_with (first
    | go_skip
    | ((with_reducible refine wlAt 9 rfl ?_); refine wpList_loadall rfl 38 (.tmp 3) rfl (w.heap.size + 1) rfl 3 (foAt ax d p) 38 _ Tryd.underlying38 rfl size_fold F.out ?_)
    | (go_at_call 42; (refine (HA.out _ P.out).mono ?_); rintro o w1 ⟨rfl, hb⟩; replace P := Go.Lib.hid (row_next hb P.out); replace F := Go.Lib.hid (row_next hb F.out); replace Z := Go.Lib.hid (row_next hb Z.out); replace hB := Go.Lib.hid (below_next hB.out hb); clear hb)
    | ((with_reducible refine wlOp (.store 34 (.tmp 4) (.tmp 13)) rfl ?_); refine wpList_storeall rfl 34 (.tmp 4) (.tmp 13) rfl (w.heap.size + 2) rfl 266 Sh.zero.at Sh.zero.at rfl 34 size_sheet Z.out (fun i _ => Sh.one _ i) ?_; replace Z := Go.Lib.hid (row_set Z.out (vrow 266 Sh.zero.at)); replace hB := Go.Lib.hid (Below_setRow hB.out (show w.heap.size ≤ w.heap.size + 2 by omega) (vrow 266 Sh.zero.at))))
  exact ret_row3 Tryd.results12 (w.heap.size + 2) 266 Sh.zero.at 34 _ Tryd.underlying34 rfl size_sheet (.int .i64 0) (.int .i64 c) rfl rfl rfl rfl Z.out ⟨rfl, hB.out⟩
set_option maxHeartbeats 4000000 in
theorem specPO_ok (s : Sh) (ax : Int) (d : Bool) (p : Int) (w : World) (hf : s.fit) (hax : -128 ≤ ax ∧ ax ≤ 127) (hap : -128 ≤ p ∧ p ≤ 127) (a c : Nat) (hb0 : bdP s) (ea : s.wide = a) (ec : s.high = c) (ha : 1 ≤ a ∧ a ≤ 8) (hcc : 1 ≤ c ∧ c ≤ 8) (hc : askC (okI s) (foldOk s ax d p) true = 0) (hax2 : 1 ≤ ax ∧ ax ≤ 8) (hp2 : 0 ≤ p ∧ p ≤ 16) : Calls Tryd.prog 12 #[.agg s.row, .agg #[.int .i8 ax, .bool d, .int .i8 p]] w fun e w' => e = .returned (.tuple #[.agg (prL p ax d s (prsL s a c ax d)).1.row, .int .i64 (prL p ax d s (prsL s a c ax d)).2, .int .i64 0]) ∧ Below w.heap.size w w' := by
  have HL := Go.Lib.hid fun W h => lpressed_any s w.heap.size a c ax d p W h hf hb0 hp2 hax2 ea ec ha hcc
  generalize (prL p ax d s (prsL s a c ax d)) = U at *
  obtain ⟨r, m⟩ := U
  dsimp only at *
  have HA := Go.Lib.hid fun W h => asked_any s w.heap.size ax d p true W h hf hax hap
  have e1 : askC (okB s) (foldOk s ax d p) true = 0 := by rw [← ok_eq s hf]; exact hc
  rw [e1, fo_vrow] at HA
  rw [fo_vrow]
  clear hc e1
  have zz := zero_sheet
  have P : Hid ((((w.alloc (.cells (vrow 266 s.at) 34)).alloc (.cells (vrow 3 (foAt ax d p)) 38)).alloc (.cells (vrow 266 Sh.zero.at) 34)).heap[w.heap.size]? = some (.cells (vrow 266 s.at) 34)) := (heap_past _ _ _ _ (by simp <;> omega) (heap_past _ _ _ _ (by simp <;> omega) (heap_at _ _ _ (by simp))))
  have F : Hid ((((w.alloc (.cells (vrow 266 s.at) 34)).alloc (.cells (vrow 3 (foAt ax d p)) 38)).alloc (.cells (vrow 266 Sh.zero.at) 34)).heap[w.heap.size + 1]? = some (.cells (vrow 3 (foAt ax d p)) 38)) := (heap_past _ _ _ _ (by simp <;> omega) (heap_at _ _ _ (by simp)))
  have Z : Hid ((((w.alloc (.cells (vrow 266 s.at) 34)).alloc (.cells (vrow 3 (foAt ax d p)) 38)).alloc (.cells (vrow 266 Sh.zero.at) 34)).heap[w.heap.size + 2]? = some (.cells (vrow 266 Sh.zero.at) 34)) := (heap_at _ _ _ (by simp))
  have hB : Hid (Below w.heap.size w (((w.alloc (.cells (vrow 266 s.at) 34)).alloc (.cells (vrow 3 (foAt ax d p)) 38)).alloc (.cells (vrow 266 Sh.zero.at) 34))) := Go.Lib.hid ((((Below.refl w.heap.size w).alloc (by simp <;> omega) _).alloc (by simp <;> omega) _).alloc (by simp <;> omega) _)
  have hz0 := row_lt Z.out
  go_enter Tryd.func12, Tryd.ntmps12
  go_wp2_with (first
    | go_skip
    | ((first | (with_reducible refine wlAt 9 rfl ?_) | (with_reducible refine wlAt 15 rfl ?_)); refine wpList_loadall rfl 38 (.tmp 3) rfl (w.heap.size + 1) rfl 3 (foAt ax d p) 38 _ Tryd.underlying38 rfl size_fold F.out ?_)
    | (go_at_call 42; (refine (HA.out _ P.out).mono ?_); rintro o w1 ⟨rfl, hb⟩; have hb9 := hb.size; replace P := Go.Lib.hid (row_next hb P.out); replace F := Go.Lib.hid (row_next hb F.out); replace Z := Go.Lib.hid (row_next hb Z.out); replace hB := Go.Lib.hid (below_next hB.out hb); replace hz0 := Nat.lt_of_lt_of_le hz0 hb9; clear hb9)
    | (go_at_call 43; (refine (HL.out _ P.out).mono ?_); rintro o w2 ⟨rfl, hg, hP⟩; replace P := Go.Lib.hid hP; replace Z := Go.Lib.hid ((hg.block _ (row_lt Z.out) (by simp)).trans Z.out); replace hB := Go.Lib.hid (below_grown hB.out hg (Nat.le_refl _)); clear hg hP)
    | ((with_reducible refine wlAt 17 rfl ?_); refine wpList_loadall rfl 34 (.tmp 2) rfl w.heap.size rfl 266 r.at 34 _ Tryd.underlying34 rfl size_sheet P.out ?_)
    | ((with_reducible refine wlOp (.store 34 (.tmp 4) (.tmp 17)) rfl ?_); refine wpList_storeall rfl 34 (.tmp 4) (.tmp 17) rfl (w.heap.size + 2) rfl 266 Sh.zero.at r.at rfl 34 size_sheet Z.out (fun i _ => Sh.one _ i) ?_; replace Z := Go.Lib.hid (row_set Z.out (vrow 266 r.at)); replace hB := Go.Lib.hid (Below_setRow hB.out (show w.heap.size ≤ w.heap.size + 2 by omega) (vrow 266 r.at))))
  exact ret_row3 Tryd.results12 (w.heap.size + 2) 266 r.at 34 _ Tryd.underlying34 rfl size_sheet (.int .i64 m) (.int .i64 0) rfl rfl rfl rfl Z.out ⟨rfl, hB.out⟩
set_option maxHeartbeats 4000000 in
theorem specPA_bad (s : Sh) (ao : Option Addr) (n cap : Nat) (px : Nat → Int) (py : Nat → Bool) (pn : Nat → Int) (w : World) (hf : s.fit) (ho : okI s = false) : Calls Tryd.prog 18 #[.agg s.row, .slice ao n cap] w fun e w' => e = .returned (.tuple #[.agg Sh.zero.row, .int .i64 0, .int .i64 1]) ∧ Below w.heap.size w w' := by
  have HO := Go.Lib.hid fun W h => ok_any s w.heap.size W h hf
  rw [← ok_eq s hf, ho] at HO
  have zz := zero_sheet
  have P : Hid (((w.alloc (.cells (vrow 266 s.at) 34)).alloc (.cells (vrow 266 Sh.zero.at) 34)).heap[w.heap.size]? = some (.cells (vrow 266 s.at) 34)) := (heap_past _ _ _ _ (by simp <;> omega) (heap_at _ _ _ (by simp)))
  have Z : Hid (((w.alloc (.cells (vrow 266 s.at) 34)).alloc (.cells (vrow 266 Sh.zero.at) 34)).heap[w.heap.size + 1]? = some (.cells (vrow 266 Sh.zero.at) 34)) := (heap_at _ _ _ (by simp))
  have hB : Hid (Below w.heap.size w ((w.alloc (.cells (vrow 266 s.at) 34)).alloc (.cells (vrow 266 Sh.zero.at) 34))) := Go.Lib.hid (((Below.refl w.heap.size w).alloc (by simp <;> omega) _).alloc (by simp <;> omega) _)
  go_enter Tryd.func18, Tryd.ntmps18
  go_wp2_with (first
    | go_skip
    | (go_at_call 50; (refine (HO.out _ P.out).mono ?_); rintro o w1 ⟨rfl, hb⟩; replace P := Go.Lib.hid (row_next hb P.out); replace Z := Go.Lib.hid (row_next hb Z.out); replace hB := Go.Lib.hid (below_next hB.out hb); clear hb)
    | ((with_reducible refine wlOp (.store 34 (.tmp 4) (.tmp 12)) rfl ?_); refine wpList_storeall rfl 34 (.tmp 4) (.tmp 12) rfl (w.heap.size + 1) rfl 266 Sh.zero.at Sh.zero.at rfl 34 size_sheet Z.out (fun i _ => Sh.one _ i) ?_; replace Z := Go.Lib.hid (row_set Z.out (vrow 266 Sh.zero.at)); replace hB := Go.Lib.hid (Below_setRow hB.out (show w.heap.size ≤ w.heap.size + 1 by omega) (vrow 266 Sh.zero.at))))
  exact ret_row3 Tryd.results18 (w.heap.size + 1) 266 Sh.zero.at 34 _ Tryd.underlying34 rfl size_sheet (.int .i64 0) (.int .i64 1) rfl rfl rfl rfl Z.out ⟨rfl, hB.out⟩
set_option maxHeartbeats 4000000 in
theorem specPA_lim (s : Sh) (ao : Option Addr) (n cap : Nat) (px : Nat → Int) (py : Nat → Bool) (pn : Nat → Int) (w : World) (hf : s.fit) (ho : okI s = true) (hn : 30 < n) : Calls Tryd.prog 18 #[.agg s.row, .slice ao n cap] w fun e w' => e = .returned (.tuple #[.agg Sh.zero.row, .int .i64 0, .int .i64 3]) ∧ Below w.heap.size w w' := by
  have HO := Go.Lib.hid fun W h => ok_any s w.heap.size W h hf
  rw [← ok_eq s hf, ho] at HO
  have h1 : decide ((30 : Int) < (n : Int)) = true := by simp; omega
  have zz := zero_sheet
  have P : Hid (((w.alloc (.cells (vrow 266 s.at) 34)).alloc (.cells (vrow 266 Sh.zero.at) 34)).heap[w.heap.size]? = some (.cells (vrow 266 s.at) 34)) := (heap_past _ _ _ _ (by simp <;> omega) (heap_at _ _ _ (by simp)))
  have Z : Hid (((w.alloc (.cells (vrow 266 s.at) 34)).alloc (.cells (vrow 266 Sh.zero.at) 34)).heap[w.heap.size + 1]? = some (.cells (vrow 266 Sh.zero.at) 34)) := (heap_at _ _ _ (by simp))
  have hB : Hid (Below w.heap.size w ((w.alloc (.cells (vrow 266 s.at) 34)).alloc (.cells (vrow 266 Sh.zero.at) 34))) := Go.Lib.hid (((Below.refl w.heap.size w).alloc (by simp <;> omega) _).alloc (by simp <;> omega) _)
  go_enter Tryd.func18, Tryd.ntmps18
  go_wp2_with (first
    | go_skip
    | (go_at_call 50; (refine (HO.out _ P.out).mono ?_); rintro o w1 ⟨rfl, hb⟩; replace P := Go.Lib.hid (row_next hb P.out); replace Z := Go.Lib.hid (row_next hb Z.out); replace hB := Go.Lib.hid (below_next hB.out hb); clear hb)
    | ((with_reducible refine wlOp (.store 34 (.tmp 4) (.tmp 16)) rfl ?_); refine wpList_storeall rfl 34 (.tmp 4) (.tmp 16) rfl (w.heap.size + 1) rfl 266 Sh.zero.at Sh.zero.at rfl 34 size_sheet Z.out (fun i _ => Sh.one _ i) ?_; replace Z := Go.Lib.hid (row_set Z.out (vrow 266 Sh.zero.at)); replace hB := Go.Lib.hid (Below_setRow hB.out (show w.heap.size ≤ w.heap.size + 1 by omega) (vrow 266 Sh.zero.at))))
  exact ret_row3 Tryd.results18 (w.heap.size + 1) 266 Sh.zero.at 34 _ Tryd.underlying34 rfl size_sheet (.int .i64 0) (.int .i64 3) rfl rfl rfl rfl Z.out ⟨rfl, hB.out⟩
theorem lfold3_any (s : Sh) (b : Nat) (ax : Int) (d : Bool) (p : Int) (w : World) (hs : w.heap[b]? = some (.cells (vrow 266 s.at) 34)) (hf : s.fit) (hax : -128 ≤ ax ∧ ax ≤ 127) (hap : -128 ≤ p ∧ p ≤ 127) : Calls Tryd.prog 51 #[.pointer (some ⟨b, 0, none⟩), .agg (vrow 3 (foAt ax d p))] w fun e w' => e = .returned (.bool (foldOk s ax d p)) ∧ Below w.heap.size w w' := foldL_any s b ax d p w hs hf hax hap
set_option maxRecDepth 100000 in
set_option maxHeartbeats 8000000 in
theorem specPA_rng (s : Sh) (ao : Option Addr) (n cap : Nat) (px : Nat → Int) (py : Nat → Bool) (pn : Nat → Int) (w : World) (hf : s.fit) (hpx : ∀ i, i < n → -128 ≤ px i ∧ px i ≤ 127) (hpn : ∀ i, i < n → -128 ≤ pn i ∧ pn i ≤ 127) (ho : okI s = true) (hn : n ≤ 30) (hF : FdR w ao n px py pn w.heap.size) (q : Nat) (hq : q < n) (hall : ∀ i, i < q → foldOk s (px i) (py i) (pn i) = true) (hno : foldOk s (px q) (py q) (pn q) = false) : Calls Tryd.prog 18 #[.agg s.row, .slice ao n cap] w fun e w' => e = .returned (.tuple #[.agg Sh.zero.row, .int .i64 0, .int .i64 2]) ∧ Below w.heap.size w w' := by
  have HO := Go.Lib.hid fun W h => ok_any s w.heap.size W h hf
  have hok := ho
  rw [← ok_eq s hf, ho] at HO
  have h1 : decide ((30 : Int) < (n : Int)) = false := by simp; omega
  have zz := zero_sheet
  have P : Hid (((w.alloc (.cells (vrow 266 s.at) 34)).alloc (.cells (vrow 266 Sh.zero.at) 34)).heap[w.heap.size]? = some (.cells (vrow 266 s.at) 34)) := (heap_past _ _ _ _ (by simp <;> omega) (heap_at _ _ _ (by simp)))
  have Z : Hid (((w.alloc (.cells (vrow 266 s.at) 34)).alloc (.cells (vrow 266 Sh.zero.at) 34)).heap[w.heap.size + 1]? = some (.cells (vrow 266 Sh.zero.at) 34)) := (heap_at _ _ _ (by simp))
  have hB : Hid (Below w.heap.size w ((w.alloc (.cells (vrow 266 s.at) 34)).alloc (.cells (vrow 266 Sh.zero.at) 34))) := Go.Lib.hid (((Below.refl w.heap.size w).alloc (by simp <;> omega) _).alloc (by simp <;> omega) _)
  go_enter Tryd.func18, Tryd.ntmps18
  go_wp2_with (first
    | go_skip
    | (go_at_call 50; (refine (HO.out _ P.out).mono ?_); rintro o w1 ⟨rfl, hb⟩; replace P := Go.Lib.hid (row_next hb P.out); replace Z := Go.Lib.hid (row_next hb Z.out); replace hB := Go.Lib.hid (below_next hB.out hb); clear hb))
  have P0 := P.out; have Z0 := Z.out; have B0 := hB.out
  clear P Z hB
  go_loopw [7] (fun iv wr => ∃ k : Nat, k ≤ q ∧ iv = .int .i64 k ∧ wr.heap[w.heap.size]? = some (.cells (vrow 266 s.at) 34) ∧ wr.heap[w.heap.size + 1]? = some (.cells (vrow 266 Sh.zero.at) 34) ∧ Below w.heap.size w wr) (fun iv _ => n - (intOf iv).toNat)
  case atStart => exact ⟨0, by omega, rfl, P0, Z0, B0⟩
  case round =>
    clear P0 Z0 B0
    obtain ⟨k, hk, rfl, P, Z, hB⟩ := hrel
    by_cases hlt : k < n
    · obtain ⟨D, N, F, rfl, hD, hN, hrow, hF3⟩ := hF (by omega)
      have Gr := Go.Lib.hid (row_below hB hD hrow)
      have HR := Go.Lib.hid (hF3 k hlt)
      have HFo := Go.Lib.hid fun W h => lfold3_any s w.heap.size (px k) (py k) (pn k) W h hf (hpx k hlt) (hpn k hlt)
      have hkI : (k : Int) < (n : Int) := by omega
      have hk0 : (0 : Int) ≤ (k : Int) := by omega
      have hkd : decide ((k : Int) < (n : Int)) = true := by simpa using hkI
      by_cases hkq : k < q
      · rw [hall k hkq] at HFo
        replace P := Go.Lib.hid P; replace Z := Go.Lib.hid Z; replace hB := Go.Lib.hid hB
        go_wp2_with (first
          | go_skip
          | ((with_reducible refine wlAt 26 rfl ?_); refine wpList_loadmid rfl 38 (.tmp 25) rfl D (k * 3) rfl N 3 F 38 _ Tryd.underlying38 rfl size_fold Gr.out (by omega) ?_; rw [HR.out])
          | (go_at_call 51; (refine (HFo.out _ P.out).mono ?_); rintro o w1 ⟨rfl, hb⟩; replace P := Go.Lib.hid (row_next hb P.out); replace Z := Go.Lib.hid (row_next hb Z.out); replace hB := Go.Lib.hid (below_next hB.out hb); clear hb))
        go_roundw
        case rel => exact ⟨k + 1, by omega, by go_num, P.out, Z.out, hB.out⟩
        case measure => simp [intOf]; omega
      · obtain rfl : k = q := by omega
        rw [hno] at HFo
        replace P := Go.Lib.hid P; replace Z := Go.Lib.hid Z; replace hB := Go.Lib.hid hB
        go_wp2_with (first
          | go_skip
          | ((with_reducible refine wlAt 26 rfl ?_); refine wpList_loadmid rfl 38 (.tmp 25) rfl D (k * 3) rfl N 3 F 38 _ Tryd.underlying38 rfl size_fold Gr.out (by omega) ?_; rw [HR.out])
          | (go_at_call 51; (refine (HFo.out _ P.out).mono ?_); rintro o w1 ⟨rfl, hb⟩; replace P := Go.Lib.hid (row_next hb P.out); replace Z := Go.Lib.hid (row_next hb Z.out); replace hB := Go.Lib.hid (below_next hB.out hb); clear hb)
          | ((with_reducible refine wlOp (.store 34 (.tmp 4) (.tmp 29)) rfl ?_); refine wpList_storeall rfl 34 (.tmp 4) (.tmp 29) rfl (w.heap.size + 1) rfl 266 Sh.zero.at Sh.zero.at rfl 34 size_sheet Z.out (fun i _ => Sh.one _ i) ?_; replace Z := Go.Lib.hid (row_set Z.out (vrow 266 Sh.zero.at)); replace hB := Go.Lib.hid (Below_setRow hB.out (show w.heap.size ≤ w.heap.size + 1 by omega) (vrow 266 Sh.zero.at))))
        exact ret_row3 Tryd.results18 (w.heap.size + 1) 266 Sh.zero.at 34 _ Tryd.underlying34 rfl size_sheet (.int .i64 0) (.int .i64 2) rfl rfl rfl rfl Z.out ⟨rfl, hB.out⟩
    · omega
set_option maxRecDepth 100000 in
set_option maxHeartbeats 8000000 in
theorem specPA_ok (s : Sh) (ao : Option Addr) (n cap : Nat) (px : Nat → Int) (py : Nat → Bool) (pn : Nat → Int) (w : World) (hf : s.fit) (hpx : ∀ i, i < n → -128 ≤ px i ∧ px i ≤ 127) (hpn : ∀ i, i < n → -128 ≤ pn i ∧ pn i ≤ 127) (ho : okI s = true) (hn : n ≤ 30) (hF : FdR w ao n px py pn w.heap.size) (a c : Nat) (hb0 : bdP s) (ea : s.wide = a) (ec : s.high = c) (ha : 1 ≤ a ∧ a ≤ 8) (hc : 1 ≤ c ∧ c ≤ 8) (hall : ∀ i, i < n → foldOk s (px i) (py i) (pn i) = true) : Calls Tryd.prog 18 #[.agg s.row, .slice ao n cap] w fun e w' => e = .returned (.tuple #[.agg (prF s a c px py pn n).1.row, .int .i64 (prF s a c px py pn n).2, .int .i64 0]) ∧ Below w.heap.size w w' := by
  have HO := Go.Lib.hid fun W h => ok_any s w.heap.size W h hf
  have hok := ho
  rw [← ok_eq s hf, ho] at HO
  have h1 : decide ((30 : Int) < (n : Int)) = false := by simp; omega
  have zz := zero_sheet
  have P : Hid (((w.alloc (.cells (vrow 266 s.at) 34)).alloc (.cells (vrow 266 Sh.zero.at) 34)).heap[w.heap.size]? = some (.cells (vrow 266 s.at) 34)) := (heap_past _ _ _ _ (by simp <;> omega) (heap_at _ _ _ (by simp)))
  have Z : Hid (((w.alloc (.cells (vrow 266 s.at) 34)).alloc (.cells (vrow 266 Sh.zero.at) 34)).heap[w.heap.size + 1]? = some (.cells (vrow 266 Sh.zero.at) 34)) := (heap_at _ _ _ (by simp))
  have hB : Hid (Below w.heap.size w ((w.alloc (.cells (vrow 266 s.at) 34)).alloc (.cells (vrow 266 Sh.zero.at) 34))) := Go.Lib.hid (((Below.refl w.heap.size w).alloc (by simp <;> omega) _).alloc (by simp <;> omega) _)
  go_enter Tryd.func18, Tryd.ntmps18
  go_wp2_with (first
    | go_skip
    | (go_at_call 50; (refine (HO.out _ P.out).mono ?_); rintro o w1 ⟨rfl, hb⟩; replace P := Go.Lib.hid (row_next hb P.out); replace Z := Go.Lib.hid (row_next hb Z.out); replace hB := Go.Lib.hid (below_next hB.out hb); clear hb))
  have P0 := P.out; have Z0 := Z.out; have B0 := hB.out
  clear P Z hB
  go_loopw [7] (fun iv wr => ∃ k : Nat, k ≤ n ∧ iv = .int .i64 k ∧ wr.heap[w.heap.size]? = some (.cells (vrow 266 s.at) 34) ∧ wr.heap[w.heap.size + 1]? = some (.cells (vrow 266 Sh.zero.at) 34) ∧ Below w.heap.size w wr) (fun iv _ => n - (intOf iv).toNat)
  case atStart => exact ⟨0, by omega, rfl, P0, Z0, B0⟩
  case round =>
    clear P0 Z0 B0
    obtain ⟨k, hk, rfl, P, Z, hB⟩ := hrel
    by_cases hlt : k < n
    · obtain ⟨D, N, F, rfl, hD, hN, hrow, hF3⟩ := hF (by omega)
      have Gr := Go.Lib.hid (row_below hB hD hrow)
      have HR := Go.Lib.hid (hF3 k hlt)
      have HFo := Go.Lib.hid fun W h => lfold3_any s w.heap.size (px k) (py k) (pn k) W h hf (hpx k hlt) (hpn k hlt)
      have hkI : (k : Int) < (n : Int) := by omega
      have hk0 : (0 : Int) ≤ (k : Int) := by omega
      have hkd : decide ((k : Int) < (n : Int)) = true := by simpa using hkI
      rw [hall k hlt] at HFo
      replace P := Go.Lib.hid P; replace Z := Go.Lib.hid Z; replace hB := Go.Lib.hid hB
      go_wp2_with (first
        | go_skip
        | ((with_reducible refine wlAt 26 rfl ?_); refine wpList_loadmid rfl 38 (.tmp 25) rfl D (k * 3) rfl N 3 F 38 _ Tryd.underlying38 rfl size_fold Gr.out (by omega) ?_; rw [HR.out])
        | (go_at_call 51; (refine (HFo.out _ P.out).mono ?_); rintro o w1 ⟨rfl, hb⟩; replace P := Go.Lib.hid (row_next hb P.out); replace Z := Go.Lib.hid (row_next hb Z.out); replace hB := Go.Lib.hid (below_next hB.out hb); clear hb))
      go_roundw
      case rel => exact ⟨k + 1, by omega, by go_num, P.out, Z.out, hB.out⟩
      case measure => simp [intOf]; omega
    · obtain rfl : k = n := by omega
      have hkd : decide ((k : Int) < (k : Int)) = false := by simp
      go_wp2
      go_loopw [8, 9] (fun mv iv wz => ∃ j : Nat, j ≤ k ∧ iv = .int .i64 j ∧ mv = .int .i64 (prF s a c px py pn j).2 ∧ wz.heap[w.heap.size]? = some (.cells (vrow 266 (prF s a c px py pn j).1.at) 34) ∧ wz.heap[w.heap.size + 1]? = some (.cells (vrow 266 Sh.zero.at) 34) ∧ Below w.heap.size w wz) (fun _ iv _ => k - (intOf iv).toNat)
      case atStart => exact ⟨0, by omega, rfl, rfl, P, Z, hB⟩
      case round =>
        clear P Z hB
        obtain ⟨j, hj, rfl, rfl, P, Z, hB⟩ := hrel
        by_cases hlj : j < k
        · skip
          obtain ⟨D, N, F, rfl, hD, hN, hrow, hF3⟩ := hF (by omega)
          have Gr := Go.Lib.hid (row_below hB hD hrow)
          have HR := Go.Lib.hid (hF3 j hlj)
          have hbd2 := foldOk_bd hok (hall j hlj)
          have hkt := prF_kept s a c px py pn j
          have hbF := prF_bd (px := px) (py := py) (pn := pn) hb0 ha.2 hc.2 j fun i hi => by have := (foldOk_bd hok (hall i (by omega))).2; omega
          have HL0 := fun W h => lpressed_any (prF s a c px py pn j).1 w.heap.size a c (px j) (py j) (pn j) W h (fit_bd hkt hf hbF.1) hbF.1 (by omega) hbd2.1 (by rw [hkt.1]; exact ea) (by rw [hkt.2.1]; exact ec) ha hc
          rw [prsL_kept hkt] at HL0
          have hlk := prsL_len s (a := a) (c := c) (ax := px j) (d := py j) ha.2 hc.2
          have hb9 := (prL_bd (pr := pn j) (ax := px j) (d := py j) hbF.1 (by omega) (prsL s a c (px j) (py j)).length (prsL s a c (px j) (py j)) rfl).2
          have hst := Go.Lib.hid (show prF s a c px py pn (j + 1) = ((prL (pn j) (px j) (py j) (prF s a c px py pn j).1 (prsL s a c (px j) (py j))).1, (prF s a c px py pn j).2 + (prL (pn j) (px j) (py j) (prF s a c px py pn j).1 (prsL s a c (px j) (py j))).2) from rfl)
          clear hkt
          generalize prF s a c px py pn j = U at *
          obtain ⟨S, mv⟩ := U
          dsimp only at *
          generalize prsL s a c (px j) (py j) = L at *
          generalize prL (pn j) (px j) (py j) S L = U at *
          obtain ⟨S', n'⟩ := U
          dsimp only at *
          have HL := Go.Lib.hid HL0
          clear HL0
          have hwm : IntKind.i64.wrap (mv + n') = mv + n' := IntWalk.i64_in _ (by omega)
          have hjI : (j : Int) < (k : Int) := by omega
          have hj0 : (0 : Int) ≤ (j : Int) := by omega
          have hjd : decide ((j : Int) < (k : Int)) = true := by simpa using hjI
          replace P := Go.Lib.hid P; replace Z := Go.Lib.hid Z; replace hB := Go.Lib.hid hB
          go_wp2_with (first
            | go_skip
            | ((with_reducible refine wlAt 40 rfl ?_); refine wpList_loadmid rfl 38 (.tmp 39) rfl D (j * 3) rfl N 3 F 38 _ Tryd.underlying38 rfl size_fold Gr.out (by omega) ?_; rw [HR.out])
            | (go_at_call 43; (refine (HL.out _ P.out).mono ?_); rintro o w2 ⟨rfl, hg, hP⟩; replace P := Go.Lib.hid hP; replace Z := Go.Lib.hid ((hg.block _ (row_lt Z.out) (by simp)).trans Z.out); replace hB := Go.Lib.hid (below_grown hB.out hg (Nat.le_refl _)); clear hg hP))
          go_roundw
          case rel => exact ⟨j + 1, by omega, by go_num, by rw [hst.out], by rw [hst.out]; exact P.out, Z.out, hB.out⟩
          case measure => simp [intOf]; omega
        · obtain rfl : j = k := by omega
          have hjd : decide ((j : Int) < (j : Int)) = false := by simp
          obtain ⟨U, hU⟩ : ∃ U, prF s a c px py pn j = U := ⟨_, rfl⟩
          rw [hU] at P
          have HU := Go.Lib.hid hU
          obtain ⟨r, m⟩ := U
          have hm2 : (prF s a c px py pn j).2 = m := by rw [hU]
          rw [hm2]
          clear hU hm2
          dsimp only at *
          replace P := Go.Lib.hid P; replace Z := Go.Lib.hid Z; replace hB := Go.Lib.hid hB
          go_wp2_with (first
            | go_skip
            | ((with_reducible refine wlAt 43 rfl ?_); refine wpList_loadall rfl 34 (.tmp 2) rfl w.heap.size rfl 266 r.at 34 _ Tryd.underlying34 rfl size_sheet P.out ?_)
            | ((with_reducible refine wlOp (.store 34 (.tmp 4) (.tmp 43)) rfl ?_); refine wpList_storeall rfl 34 (.tmp 4) (.tmp 43) rfl (w.heap.size + 1) rfl 266 Sh.zero.at r.at rfl 34 size_sheet Z.out (fun i _ => Sh.one _ i) ?_; replace Z := Go.Lib.hid (row_set Z.out (vrow 266 r.at)); replace hB := Go.Lib.hid (Below_setRow hB.out (show w.heap.size ≤ w.heap.size + 1 by omega) (vrow 266 r.at))))
          exact ret_row3 Tryd.results18 (w.heap.size + 1) 266 r.at 34 _ Tryd.underlying34 rfl size_sheet (.int .i64 m) (.int .i64 0) rfl rfl rfl rfl Z.out ⟨by rw [HU.out], hB.out⟩
end Go.Proofs.YtmcpaangofdmpaaDoor
