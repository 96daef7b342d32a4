import Derived.Deep.RegionHeld3
import Derived.Test.YtfkialifnkfgcaaDoorRadM
import Derived.Test.YtfkialifnkfgcaaDoorLdry
import Derived.Test.YtfkialifnkfgcaaDoorLrun
import Derived.Test.YtfkialifnkfgcaaDoorIdry
import Derived.Test.YtfkialifnkfgcaaDoorImplW
import Derived.Test.YtfkialifnkfgcaaDoorCodeOf
import Derived.Test.YtfkialifnkfgcaaDoorG1
import Derived.Test.YtfkialifnkfgcaaDoorPlain
namespace Go.Proofs.YtfkialifnkfgcaaDoor
open Go.RowKit
set_option maxRecDepth 100000
set_option linter.unusedVariables false
set_option linter.unusedSimpArgs false
theorem own_row_ge {W : World} {base g cap size n : Nat} {t : TypeId} {xs : List Value} (h : W.ownsRow base t size (.slice (some ⟨g, 0, none⟩) n cap) n xs) : base ≤ g := by
  rcases h.2 with ⟨hv, _⟩ | ⟨g', cap', cur, hv, hb, _⟩
  · cases hv
  · simp only [Value.slice.injEq, Option.some.injEq, Addr.mk.injEq] at hv
    obtain ⟨⟨rfl, _⟩, _, rfl⟩ := hv
    exact hb
theorem keep_at' {A B : World} {row : Option Nat} {b : Nat} {x : Obj} (g : A.grownBy B row) (hx : A.heap[b]? = some x) (hr : ∀ r, row = some r → b ≠ r) : B.heap[b]? = some x :=
  (g.block b (row_lt hx) (fun e => absurd rfl (hr b e.symm))).trans hx
theorem GRow.keep' {W W' : World} {gp gl : Nat} {s : Sh} {l : List Sp8} {f f2 : Nat → Value} (h : GRow W gp gl s l f f2) {row : Option Nat} (g : W.grownBy W' row) (h1 : ∀ r, row = some r → gp ≠ r) (h2 : ∀ r, row = some r → gl ≠ r) : GRow W' gp gl s l f f2 :=
  ⟨keep_at' g h.pl h1, keep_at' g h.li h2, h.hl, h.at_, h.nb⟩
set_option maxHeartbeats 2000000 in
theorem specRad_bad (s : Sh) (w : World) (hf : s.fit) (ho : okI s = false) : Calls Tryd.prog 23 #[.agg s.row] w fun o w' => o = .returned (.tuple #[.agg Sh.zero.row, .int .i64 0, .int .i64 1]) ∧ Below w.heap.size w w' := by
  have HO0 := fun b w hs => ok_any s b w hs hf
  rw [← ok_eq s hf, ho] at HO0
  have HO := Go.Lib.hid HO0
  clear HO0 hf ho
  have zz := zero_sheet
  have hB : Hid (Below w.heap.size w ((w.alloc (.cells (vrow 266 s.at) 32)).alloc (.cells (vrow 266 Sh.zero.at) 32))) := (((Below.refl w.heap.size w).alloc (by simp <;> omega) _).alloc (by simp <;> omega) _)
  have P : Hid (((w.alloc (.cells (vrow 266 s.at) 32)).alloc (.cells (vrow 266 Sh.zero.at) 32)).heap[w.heap.size]? = some (.cells (vrow 266 s.at) 32)) := heap_past _ _ _ _ (by first | omega | (simp <;> omega)) (heap_at _ _ _ (by simp))
  have Z : Hid (((w.alloc (.cells (vrow 266 s.at) 32)).alloc (.cells (vrow 266 Sh.zero.at) 32)).heap[w.heap.size + 1]? = some (.cells (vrow 266 Sh.zero.at) 32)) := heap_at _ _ _ (by simp)
  go_enter Tryd.func23, Tryd.ntmps23
  go_wp2_with (first
    | go_skip
    | (go_at_call 53; (refine (HO.out _ _ P.out).mono ?_; rintro e w1 ⟨rfl, hb⟩; replace P := Go.Lib.hid (row_next hb P.out); replace Z := Go.Lib.hid (row_next hb Z.out); replace hB := Go.Lib.hid (below_next hB.out hb); clear hb))
    | ((with_reducible refine wlAt 12 rfl ?_); refine wpList_built rfl 32 [] rfl [] (by rfl) _ built_zero ?_)
    | ((with_reducible refine wlOp (.store 32 (.tmp 2) (.tmp 12)) rfl ?_); refine wpList_storeall rfl 32 (.tmp 2) (.tmp 12) rfl (w.heap.size + 1) rfl 266 Sh.zero.at (Sh.zero).at rfl 32 size_sheet Z.out (fun i _ => Sh.one _ i) ?_; replace Z := Go.Lib.hid (row_set Z.out (vrow 266 (Sh.zero).at)); replace hB := Go.Lib.hid (Below_setRow hB.out (show w.heap.size ≤ w.heap.size + 1 by omega) (vrow 266 (Sh.zero).at))))
  exact ret_row3 Tryd.results23 (w.heap.size + 1) 266 Sh.zero.at 32 _ Tryd.underlying32 rfl size_sheet (.int .i64 0) (.int .i64 1) rfl rfl rfl rfl Z.out ⟨rfl, hB.out⟩
set_option maxHeartbeats 8000000 in
theorem specRad_ok (s : Sh) (a c N : Nat) (w : World) (ea : s.wide = a) (ec : s.high = c) (ha : 1 ≤ a ∧ a ≤ 8) (hc : 1 ≤ c ∧ c ≤ 8) (hf : s.fit) (ho : okI s = true) (hi : InkOk s) (hN : N ≤ 12800) (hz : wsum (rdS s (cellsL a c) N) 64 = 0) (hnz : ∀ j, j < N → wsum (rdS s (cellsL a c) j) 64 ≠ 0) : Calls Tryd.prog 23 #[.agg s.row] w fun o w' => o = .returned (.tuple #[.agg (rdS s (cellsL a c) N).row, .int .i64 N, .int .i64 0]) ∧ Below w.heap.size w w' := by
  have HO0 := fun b w hs => ok_any s b w hs hf
  rw [← ok_eq s hf, ho] at HO0
  have HO := Go.Lib.hid HO0
  have HG := Go.Lib.hid fun k => rd_gd (rd_in ea ec ha.2 hc.2 ho) hi hf k
  have HRU := Go.Lib.hid fun (T : Sh) (hT : Gd s T) w => lrun_any T a c w (by rw [hT.wide, ea]) (by rw [hT.high, ec]) ha hc hT.ok hT.ink hT.fit
  have HDR := Go.Lib.hid fun (T : Sh) (hT : Gd s T) b w hs => ldry_any T b a c w hs (by rw [hT.wide, ea]) (by rw [hT.high, ec]) ha hc hT.ok hT.ink hT.fit
  clear HO0 hf ho hi ea ec ha hc
  generalize cellsL a c = L at *
  have HZ := Go.Lib.hid hz; have HNZ := Go.Lib.hid hnz
  clear hz hnz
  have zz := zero_sheet
  have hB : Hid (Below w.heap.size w ((w.alloc (.cells (vrow 266 s.at) 32)).alloc (.cells (vrow 266 Sh.zero.at) 32))) := (((Below.refl w.heap.size w).alloc (by simp <;> omega) _).alloc (by simp <;> omega) _)
  have P : Hid (((w.alloc (.cells (vrow 266 s.at) 32)).alloc (.cells (vrow 266 Sh.zero.at) 32)).heap[w.heap.size]? = some (.cells (vrow 266 s.at) 32)) := heap_past _ _ _ _ (by first | omega | (simp <;> omega)) (heap_at _ _ _ (by simp))
  have Z : Hid (((w.alloc (.cells (vrow 266 s.at) 32)).alloc (.cells (vrow 266 Sh.zero.at) 32)).heap[w.heap.size + 1]? = some (.cells (vrow 266 Sh.zero.at) 32)) := heap_at _ _ _ (by simp)
  go_enter Tryd.func23, Tryd.ntmps23
  go_wp2_with (first
    | go_skip
    | (go_at_call 53; (refine (HO.out _ _ P.out).mono ?_; rintro e w1 ⟨rfl, hb⟩; replace P := Go.Lib.hid (row_next hb P.out); replace Z := Go.Lib.hid (row_next hb Z.out); replace hB := Go.Lib.hid (below_next hB.out hb); clear hb)))
  go_loopw [5] (fun nv wr => ∃ k : Nat, k ≤ N ∧ nv = .int .i64 k ∧ wr.heap[w.heap.size]? = some (.cells (vrow 266 (rdS s L k).at) 32) ∧ wr.heap[w.heap.size + 1]? = some (.cells (vrow 266 Sh.zero.at) 32) ∧ Below w.heap.size w wr) (fun nv _ => N - (intOf nv).toNat)
  case atStart => exact ⟨0, by omega, rfl, P.out, Z.out, hB.out⟩
  case round =>
    clear P Z hB
    obtain ⟨k, hk, rfl, P, Z, hB⟩ := hrel
    replace P := Go.Lib.hid P; replace Z := Go.Lib.hid Z; replace hB := Go.Lib.hid hB
    obtain ⟨g1, g2⟩ := HG.out k
    have HWT0 := fun w0 hs => lwater_any (rdS s L k) w.heap.size w0 hs g1.fit
    by_cases hlt : k < N
    · have hne := HNZ.out k hlt
      have hR0 := fun w => HRU.out (rdS s L k) g1 w
      have hD0 := fun b w hs => HDR.out (L.foldl (cellRun s) (rdS s L k, 0)).1 g2 b w hs
      rw [runS_like g1] at hR0
      rw [← cellDry_like g2] at hD0
      have hnx : rdS s L (k + 1) = (L.foldl (cellDry s (L.foldl (cellRun s) (rdS s L k, 0)).1) ((L.foldl (cellRun s) (rdS s L k, 0)).1, 0)).1 := rfl
      generalize L.foldl (cellRun s) (rdS s L k, 0) = TR at *
      obtain ⟨R, n⟩ := TR
      change Gd s R at g2
      generalize L.foldl (cellDry s R) (R, 0) = TD at *
      obtain ⟨D, m⟩ := TD
      change rdS s L (k + 1) = D at hnx
      generalize rdS s L k = T at *
      have hsz := hB.out.size
      generalize wsum T 64 = wt at *
      have hz1 : (wt == 0) = false := by simpa using hne
      have hz2 : decide (wt = 0) = false := by simpa using hne
      have HWT := Go.Lib.hid HWT0; have HR := Go.Lib.hid hR0; have HD := Go.Lib.hid hD0; have HNX := Go.Lib.hid hnx
      clear HWT0 hR0 hD0 hnx hne g1 g2
      go_wp2_with (first
        | go_skip
        | (go_at_call 72; (refine (HWT.out _ P.out).mono ?_; rintro e w1 ⟨rfl, hb⟩; replace P := Go.Lib.hid (row_next hb P.out); replace Z := Go.Lib.hid (row_next hb Z.out); replace hB := Go.Lib.hid (below_next hB.out hb); clear hb))
        | ((with_reducible refine wlAt 20 rfl ?_); refine wpList_loadall rfl 32 (.tmp 1) rfl w.heap.size rfl 266 (T).at 32 _ Tryd.underlying32 rfl size_sheet P.out ?_)
        | (go_at_call 73; (refine (HR.out _).mono ?_; rintro e w2 ⟨rfl, hb⟩; replace P := Go.Lib.hid (row_next hb P.out); replace Z := Go.Lib.hid (row_next hb Z.out); replace hB := Go.Lib.hid (below_next hB.out hb); clear hb))
        | ((with_reducible refine wlOp (.store 32 (.tmp 6) (.tmp 22)) rfl ?_); refine wpList_storeall rfl 32 (.tmp 6) (.tmp 22) rfl _ rfl 266 Sh.zero.at (R).at rfl 32 size_sheet (heap_at _ _ _ rfl) (fun i _ => Sh.one _ i) ?_; rw [setRow_at _ _ _ _ _ rfl]; have V := Go.Lib.hid (heap_at w2 (.cells (vrow 266 (R).at) 32) _ rfl); have nP := row_lt P.out; replace P := Go.Lib.hid (heap_past _ (.cells (vrow 266 (R).at) 32) _ _ nP P.out); have nZ := row_lt Z.out; replace Z := Go.Lib.hid (heap_past _ (.cells (vrow 266 (R).at) 32) _ _ nZ Z.out); replace hB := Go.Lib.hid (hB.out.alloc hB.out.size (.cells (vrow 266 (R).at) 32)); generalize w2.heap.size = nb at V nP nZ ⊢; generalize w2.alloc _ = w2' at P Z V hB ⊢)
        | (go_at_call 65; (refine (HD.out _ _ V.out).mono ?_; rintro e w3 ⟨rfl, hb⟩; replace V := Go.Lib.hid (row_next hb V.out); replace P := Go.Lib.hid (row_next hb P.out); replace Z := Go.Lib.hid (row_next hb Z.out); replace hB := Go.Lib.hid (below_next hB.out hb); clear hb))
        | ((with_reducible refine wlOp (.store 32 (.tmp 8) (.tmp 26)) rfl ?_); refine wpList_storeall rfl 32 (.tmp 8) (.tmp 26) rfl _ rfl 266 Sh.zero.at (D).at rfl 32 size_sheet (heap_at _ _ _ rfl) (fun i _ => Sh.one _ i) ?_; rw [setRow_at _ _ _ _ _ rfl]; have X := Go.Lib.hid (heap_at w3 (.cells (vrow 266 (D).at) 32) _ rfl); have nP := row_lt P.out; replace P := Go.Lib.hid (heap_past _ (.cells (vrow 266 (D).at) 32) _ _ nP P.out); have nZ := row_lt Z.out; replace Z := Go.Lib.hid (heap_past _ (.cells (vrow 266 (D).at) 32) _ _ nZ Z.out); replace hB := Go.Lib.hid (hB.out.alloc hB.out.size (.cells (vrow 266 (D).at) 32)); generalize w3.heap.size = nc at X nP nZ ⊢; generalize w3.alloc _ = w3' at P Z X hB ⊢)
        | ((with_reducible refine wlAt 28 rfl ?_); refine wpList_loadall rfl 32 (.tmp 8) rfl nc rfl 266 D.at 32 _ Tryd.underlying32 rfl size_sheet X.out ?_)
        | ((with_reducible refine wlOp (.store 32 (.tmp 1) (.tmp 28)) rfl ?_); refine wpList_storeall rfl 32 (.tmp 1) (.tmp 28) rfl w.heap.size rfl 266 T.at D.at rfl 32 size_sheet P.out (fun i _ => Sh.one _ i) ?_; replace Z := Go.Lib.hid (row_set' (g := w.heap.size) (show w.heap.size + 1 ≠ w.heap.size by omega) Z.out (vrow 266 D.at)); replace P := Go.Lib.hid (row_set P.out (vrow 266 D.at)); replace hB := Go.Lib.hid (Below_setRow hB.out (Nat.le_refl _) (vrow 266 D.at))))
      go_roundw
      case rel => exact ⟨k + 1, by omega, by go_num, by rw [HNX.out]; exact P.out, Z.out, hB.out⟩
      case measure => simp [intOf]; omega
    · obtain rfl : k = N := by omega
      rw [HZ.out] at HWT0
      have HWT := Go.Lib.hid HWT0
      clear HWT0 g1 g2
      generalize hTk : rdS s L k = T at *
      have HTk := Go.Lib.hid hTk
      clear hTk
      go_wp2_with (first
        | go_skip
        | (go_at_call 72; (refine (HWT.out _ P.out).mono ?_; rintro e w1 ⟨rfl, hb⟩; replace P := Go.Lib.hid (row_next hb P.out); replace Z := Go.Lib.hid (row_next hb Z.out); replace hB := Go.Lib.hid (below_next hB.out hb); clear hb))
        | ((with_reducible refine wlAt 17 rfl ?_); refine wpList_loadall rfl 32 (.tmp 1) rfl w.heap.size rfl 266 (T).at 32 _ Tryd.underlying32 rfl size_sheet P.out ?_)
        | ((with_reducible refine wlOp (.store 32 (.tmp 2) (.tmp 17)) rfl ?_); refine wpList_storeall rfl 32 (.tmp 2) (.tmp 17) rfl (w.heap.size + 1) rfl 266 Sh.zero.at (T).at rfl 32 size_sheet Z.out (fun i _ => Sh.one _ i) ?_; replace Z := Go.Lib.hid (row_set Z.out (vrow 266 (T).at)); replace hB := Go.Lib.hid (Below_setRow hB.out (show w.heap.size ≤ w.heap.size + 1 by omega) (vrow 266 (T).at))))
      exact ret_row3 Tryd.results23 (w.heap.size + 1) 266 T.at 32 _ Tryd.underlying32 rfl size_sheet (.int .i64 k) (.int .i64 0) rfl rfl rfl rfl Z.out ⟨by rw [HTk.out], hB.out⟩
set_option maxHeartbeats 2000000 in
theorem implRad_bad (s : Sh) (e : ErrE) (w : World) (hE : Errs e w) (hv : okI s = false) (hf : s.fit := by assumption) : Calls Tryd.prog 24 #[.agg s.row] w fun o w' => o = .returned (.tuple #[.agg Sh.zero.row, .int .i64 0, .int .i64 1]) ∧ Below w.heap.size w w' := by
  have HC := Go.Lib.hid fun w hE => checkSheet_bad s hv e w hE
  clear hv
  have zz := zero_sheet
  have hB : Hid (Below w.heap.size w ((w.alloc (.cells (vrow 266 s.at) 32)).alloc (.cells (vrow 266 Sh.zero.at) 32))) := (((Below.refl w.heap.size w).alloc (by simp <;> omega) _).alloc (by simp <;> omega) _)
  have P : Hid (((w.alloc (.cells (vrow 266 s.at) 32)).alloc (.cells (vrow 266 Sh.zero.at) 32)).heap[w.heap.size]? = some (.cells (vrow 266 s.at) 32)) := heap_past _ _ _ _ (by first | omega | (simp <;> omega)) (heap_at _ _ _ (by simp))
  have Z : Hid (((w.alloc (.cells (vrow 266 s.at) 32)).alloc (.cells (vrow 266 Sh.zero.at) 32)).heap[w.heap.size + 1]? = some (.cells (vrow 266 Sh.zero.at) 32)) := heap_at _ _ _ (by simp)
  go_enter Tryd.func24, Tryd.ntmps24
  go_wp2_with (first
    | go_skip
    | ((with_reducible refine wlAt 8 rfl ?_); refine wpList_loadall rfl 32 (.tmp 1) rfl w.heap.size rfl 266 (s).at 32 _ Tryd.underlying32 rfl size_sheet P.out ?_)
    | (go_at_call 58; (refine (HC.out _ (hE.next hB.out)).mono ?_; rintro o w1 ⟨rfl, hb⟩; replace P := Go.Lib.hid (row_next hb P.out); replace Z := Go.Lib.hid (row_next hb Z.out); replace hB := Go.Lib.hid (below_next hB.out hb); clear hb))
    | (go_at_call 59; (refine (codeOf_1 e _ (hE.next hB.out)).mono ?_; rintro o w1 ⟨rfl, hb⟩; replace P := Go.Lib.hid (row_next hb P.out); replace Z := Go.Lib.hid (row_next hb Z.out); replace hB := Go.Lib.hid (below_next hB.out hb); clear hb))
    | ((with_reducible refine wlAt 12 rfl ?_); refine wpList_built rfl 32 [] rfl [] (by rfl) _ built_zero ?_)
    | ((with_reducible refine wlOp (.store 32 (.tmp 2) (.tmp 12)) rfl ?_); refine wpList_storeall rfl 32 (.tmp 2) (.tmp 12) rfl (w.heap.size + 1) rfl 266 Sh.zero.at (Sh.zero).at rfl 32 size_sheet Z.out (fun i _ => Sh.one _ i) ?_; replace Z := Go.Lib.hid (row_set Z.out (vrow 266 (Sh.zero).at)); replace hB := Go.Lib.hid (Below_setRow hB.out (show w.heap.size ≤ w.heap.size + 1 by omega) (vrow 266 (Sh.zero).at))))
  exact ret_row3 Tryd.results24 (w.heap.size + 1) 266 Sh.zero.at 32 _ Tryd.underlying32 rfl size_sheet (.int .i64 0) (.int .i64 1) rfl rfl rfl rfl Z.out ⟨rfl, hB.out⟩
set_option maxHeartbeats 8000000 in
theorem implRad_ok (s : Sh) (a c N : Nat) (e : ErrE) (w : World) (hE : Errs e w) (ea : s.wide = a) (ec : s.high = c) (ha : 1 ≤ a ∧ a ≤ 8) (hc : 1 ≤ c ∧ c ≤ 8) (hf : s.fit) (ho : okI s = true) (hi : InkOk s) (hN : N ≤ 12800) (hz : wsum (rdS s (cellsL a c) N) 64 = 0) (hnz : ∀ j, j < N → wsum (rdS s (cellsL a c) j) 64 ≠ 0) : Calls Tryd.prog 24 #[.agg s.row] w fun o w' => o = .returned (.tuple #[.agg (rdS s (cellsL a c) N).row, .int .i64 N, .int .i64 0]) ∧ Below w.heap.size w w' := by
  have HC := Go.Lib.hid fun w hE => checkSheet_ok s ho e w hE
  have HGR := Go.Lib.hid fun w => ground_any s a c w ea ec ha.2 hc.2 ho
  have hrd := rd_in ea ec ha.2 hc.2 ho
  have HG := Go.Lib.hid fun k => rd_gd hrd hi hf k
  have hfree : ∀ p ∈ dryL s (cellsL a c), hasB s p.1.1 p.1.2 = true ∧ waxB s p.1.1 p.1.2 = false := fun p hp => by
    obtain ⟨hp1, hp2⟩ := List.mem_filter.1 hp
    exact ⟨hrd.mem p hp1, by simpa using hp2⟩
  have hnd : ((dryL s (cellsL a c)).map pix).Nodup := (List.filter_sublist.map pix).nodup hrd.nodup
  have HRU := Go.Lib.hid fun (T : Sh) (hT : Gd s T) mt gp gl f f2 w hG ht => irun_any s T (dryL s (cellsL a c)) mt gp gl f f2 w ho hG ht hT hfree
  have HDR := Go.Lib.hid fun (T : Sh) (hT : Gd s T) mt gp gl f f2 w hG ht => idry_any s T (dryL s (cellsL a c)) mt gp gl f f2 w ho hG ht hT hnd
  have HFR := Go.Lib.hid fun T => run_filter s (cellsL a c) (T, 0)
  have HFD := Go.Lib.hid fun (T : Sh) (hT : Gd s T) => (show (dryL s (cellsL a c)).foldl (cellDry s T) (T, 0) = (cellsL a c).foldl (cellDry s T) (T, 0) from dry_filter hT (cellsL a c) hrd.mem (T, 0))
  have HWQ := Go.Lib.hid fun (T : Sh) (hT : Gd s T) => water_eq T hT.ok
  have HWT1 := Go.Lib.hid fun (T : Sh) (hT : Gd s T) w => water_any T w hT.fit (by rw [hT.wide]; omega) (by rw [hT.wide]; omega) (by rw [hT.high]; omega) (by rw [hT.high]; omega)
  clear hf ho hi ea ec ha hc hfree hnd hrd
  have HZ := Go.Lib.hid hz; have HNZ := Go.Lib.hid hnz
  clear hz hnz
  have zp := zero_pls
  have zz := zero_sheet
  have hB : Hid (Below w.heap.size w ((w.alloc (.cells (vrow 266 s.at) 32)).alloc (.cells (vrow 266 Sh.zero.at) 32))) := (((Below.refl w.heap.size w).alloc (by simp <;> omega) _).alloc (by simp <;> omega) _)
  have P : Hid (((w.alloc (.cells (vrow 266 s.at) 32)).alloc (.cells (vrow 266 Sh.zero.at) 32)).heap[w.heap.size]? = some (.cells (vrow 266 s.at) 32)) := heap_past _ _ _ _ (by first | omega | (simp <;> omega)) (heap_at _ _ _ (by simp))
  have Z : Hid (((w.alloc (.cells (vrow 266 s.at) 32)).alloc (.cells (vrow 266 Sh.zero.at) 32)).heap[w.heap.size + 1]? = some (.cells (vrow 266 Sh.zero.at) 32)) := heap_at _ _ _ (by simp)
  go_enter Tryd.func24, Tryd.ntmps24
  go_wp2_with (first
    | go_skip
    | ((with_reducible refine wlAt 8 rfl ?_); refine wpList_loadall rfl 32 (.tmp 1) rfl w.heap.size rfl 266 (s).at 32 _ Tryd.underlying32 rfl size_sheet P.out ?_)
    | (go_at_call 58; (refine (HC.out _ (hE.next hB.out)).mono ?_; rintro o w1 ⟨rfl, hb⟩; replace P := Go.Lib.hid (row_next hb P.out); replace Z := Go.Lib.hid (row_next hb Z.out); replace hB := Go.Lib.hid (below_next hB.out hb); clear hb))
    | ((with_reducible refine wlAt 15 rfl ?_); refine wpList_loadall rfl 32 (.tmp 1) rfl w.heap.size rfl 266 (s).at 32 _ Tryd.underlying32 rfl size_sheet P.out ?_)
    | (go_at_call 68; (refine (HGR.out _).mono ?_); rintro o w2 ⟨gp, gl, rfl, hGM, hb⟩; have nP := row_lt P.out; have nZ := row_lt Z.out; have g1 := own_row_ge hGM.places; have g2 := own_row_ge hGM.list; replace P := Go.Lib.hid (row_next hb P.out); replace Z := Go.Lib.hid (row_next hb Z.out); replace hB := Go.Lib.hid (below_next hB.out hb); have hbz := hb.size; clear hb; obtain ⟨f, f2, hGRr⟩ := hGM.rows; have GR := Go.Lib.hid hGRr; clear hGM hGRr))
  obtain ⟨wo, hwo⟩ : ∃ wo : World, wo = w2 := ⟨_, rfl⟩
  rw [← hwo] at P Z GR hB ⊢
  clear hwo hbz
  go_loopw [7] (fun nv wr => ∃ k : Nat, k ≤ N ∧ nv = .int .i64 k ∧ wr.heap[w.heap.size]? = some (.cells (vrow 266 (rdS s (cellsL a c) k).at) 32) ∧ wr.heap[w.heap.size + 1]? = some (.cells (vrow 266 Sh.zero.at) 32) ∧ GRow wr gp gl s (dryL s (cellsL a c)) f f2 ∧ Below w.heap.size w wr) (fun nv _ => N - (intOf nv).toNat)
  case atStart => exact ⟨0, by omega, rfl, P.out, Z.out, GR.out, hB.out⟩
  case round =>
    clear P Z GR hB
    obtain ⟨k, hk, rfl, P, Z, GR, hB⟩ := hrel
    replace P := Go.Lib.hid P; replace Z := Go.Lib.hid Z; replace GR := Go.Lib.hid GR; replace hB := Go.Lib.hid hB
    obtain ⟨q1, q2⟩ := HG.out k
    have HWT0 := fun w => HWT1.out (rdS s (cellsL a c) k) q1 w
    rw [HWQ.out _ q1] at HWT0
    by_cases hlt : k < N
    · have hne := HNZ.out k hlt
      have hwp := (wsum_pos q1 64 (Nat.le_refl _)).1
      have hR0 := fun w hG ht => HRU.out (rdS s (cellsL a c) k) q1 w.heap.size gp gl f f2 w hG ht
      have hR1 := fun w0 hG ht => HRU.out (rdS s (cellsL a c) k) q1 w.heap.size gp gl f f2 w0 hG ht
      have hD1 := fun w0 hG ht => HDR.out ((cellsL a c).foldl (cellRun s) (rdS s (cellsL a c) k, 0)).1 q2 w.heap.size gp gl f f2 w0 hG ht
      rw [HFR.out] at hR1
      rw [HFD.out _ q2] at hD1
      have hnx : rdS s (cellsL a c) (k + 1) = ((cellsL a c).foldl (cellDry s ((cellsL a c).foldl (cellRun s) (rdS s (cellsL a c) k, 0)).1) (((cellsL a c).foldl (cellRun s) (rdS s (cellsL a c) k, 0)).1, 0)).1 := rfl
      clear hR0
      generalize (cellsL a c).foldl (cellRun s) (rdS s (cellsL a c) k, 0) = TR at *
      obtain ⟨R, n⟩ := TR
      change Gd s R at q2
      generalize (cellsL a c).foldl (cellDry s R) (R, 0) = TD at *
      obtain ⟨D, m⟩ := TD
      change rdS s (cellsL a c) (k + 1) = D at hnx
      have HNX := Go.Lib.hid hnx
      clear hnx
      generalize rdS s (cellsL a c) k = T at *
      have hsz := hB.out.size
      generalize wsum T 64 = wt at *
      have hz1 : decide (0 < wt) = true := by simp; omega
      have HWT := Go.Lib.hid HWT0; have HR := Go.Lib.hid hR1; have HD := Go.Lib.hid hD1
      clear HWT0 hR1 hD1 hne hwp q1 q2
      go_wp2_with (first
        | go_skip
        | ((with_reducible refine wlAt 17 rfl ?_); refine wpList_loadall rfl 32 (.tmp 1) rfl w.heap.size rfl 266 (T).at 32 _ Tryd.underlying32 rfl size_sheet P.out ?_)
        | (go_at_call 74; (refine (HWT.out _).mono ?_; rintro o w3 ⟨rfl, hb⟩; replace GR := Go.Lib.hid (GR.out.keep' (grown_next (grown_refl _ none) hb) (fun r e => by cases e) (fun r e => by cases e)); replace P := Go.Lib.hid (row_next hb P.out); replace Z := Go.Lib.hid (row_next hb Z.out); replace hB := Go.Lib.hid (below_next hB.out hb); clear hb))
        | (go_at_call 75; (refine (HR.out _ GR.out P.out).mono ?_; rintro o w4 ⟨rfl, hg, hp⟩; replace Z := Go.Lib.hid (keep_at' hg Z.out (fun r e => by cases e; omega)); replace GR := Go.Lib.hid (GR.out.keep' hg (fun r e => by cases e; omega) (fun r e => by cases e; omega)); replace hB := Go.Lib.hid (hB.out.grown hg hB.out.size (fun q hq => by cases hq; omega)); replace P := Go.Lib.hid hp; clear hg hp))
        | (go_at_call 71; (refine (HD.out _ GR.out P.out).mono ?_; rintro o w5 ⟨rfl, hg, hp⟩; replace Z := Go.Lib.hid (keep_at' hg Z.out (fun r e => by cases e; omega)); replace GR := Go.Lib.hid (GR.out.keep' hg (fun r e => by cases e; omega) (fun r e => by cases e; omega)); replace hB := Go.Lib.hid (hB.out.grown hg hB.out.size (fun q hq => by cases hq; omega)); replace P := Go.Lib.hid hp; clear hg hp)))
      go_roundw
      case rel => exact ⟨k + 1, by omega, by go_num, by rw [HNX.out]; exact P.out, Z.out, GR.out, hB.out⟩
      case measure => simp [intOf]; omega
    · obtain rfl : k = N := by omega
      rw [HZ.out] at HWT0
      have HWT := Go.Lib.hid HWT0
      clear HWT0 q1 q2
      generalize hTk : rdS s (cellsL a c) k = T at *
      have HTk := Go.Lib.hid hTk
      clear hTk
      go_wp2_with (first
        | go_skip
        | ((with_reducible refine wlAt 17 rfl ?_); refine wpList_loadall rfl 32 (.tmp 1) rfl w.heap.size rfl 266 (T).at 32 _ Tryd.underlying32 rfl size_sheet P.out ?_)
        | (go_at_call 74; (refine (HWT.out _).mono ?_; rintro o w3 ⟨rfl, hb⟩; replace P := Go.Lib.hid (row_next hb P.out); replace Z := Go.Lib.hid (row_next hb Z.out); replace hB := Go.Lib.hid (below_next hB.out hb); clear hb))
        | ((with_reducible refine wlAt 26 rfl ?_); refine wpList_loadall rfl 32 (.tmp 1) rfl w.heap.size rfl 266 (T).at 32 _ Tryd.underlying32 rfl size_sheet P.out ?_)
        | ((with_reducible refine wlOp (.store 32 (.tmp 2) (.tmp 26)) rfl ?_); refine wpList_storeall rfl 32 (.tmp 2) (.tmp 26) rfl (w.heap.size + 1) rfl 266 Sh.zero.at (T).at rfl 32 size_sheet Z.out (fun i _ => Sh.one _ i) ?_; replace Z := Go.Lib.hid (row_set Z.out (vrow 266 (T).at)); replace hB := Go.Lib.hid (Below_setRow hB.out (show w.heap.size ≤ w.heap.size + 1 by omega) (vrow 266 (T).at))))
      exact ret_row3 Tryd.results24 (w.heap.size + 1) 266 T.at 32 _ Tryd.underlying32 rfl size_sheet (.int .i64 k) (.int .i64 0) rfl rfl rfl rfl Z.out ⟨by rw [HTk.out], hB.out⟩
end Go.Proofs.YtfkialifnkfgcaaDoor
