import Derived.Deep.RegionHeld3
import Derived.Test.YtfkialifnkfgcaaDoorWxp
import Derived.Test.YtfkialifnkfgcaaDoorPathE
import Derived.Test.YtfkialifnkfgcaaDoorPathS
import Derived.Test.YtfkialifnkfgcaaDoorEqSheet
namespace Go.Proofs.YtfkialifnkfgcaaDoor
open Go.RowKit
set_option maxRecDepth 100000
set_option linter.unusedVariables false
set_option linter.unusedSimpArgs false
set_option maxRecDepth 100000 in
set_option maxHeartbeats 8000000 in
theorem wxp_walk (s r : Sh) (c : Int) (ao : Option Addr) (n cap : Nat) (px py : Nat → Int) (e : ErrE) (w : World) (hE : Errs e w) (hm : n ≤ 9223372036854775807) (hp : PathC w ao n px py)
    (hS : n ≤ 1048576 → ∀ D w, w.heap[D]? = some (.cells (vrow (n * 2) (spf px py)) 73) → Calls Tryd.prog 26 #[.agg s.row, .slice (some ⟨D, 0, none⟩) n n] w fun e w' => e = .returned (.tuple #[.agg r.row, .int .i64 c]) ∧ Below w.heap.size w w')
    (hI : n ≤ 1048576 → ∀ D w, Errs e w → w.heap[D]? = some (.cells (vrow (n * 2) (spf px py)) 73) → Calls Tryd.prog 28 #[.agg s.row, .slice (some ⟨D, 0, none⟩) n n] w fun e w' => e = .returned (.tuple #[.agg r.row, .int .i64 c]) ∧ Below w.heap.size w w') :
    Calls Tryd.prog 7 #[.agg s.row, .slice ao n cap] w fun o w' => o = .returned (.bool true) ∧ Below w.heap.size w w' := by
  have zz := zero_sheet
  have HT := Go.Lib.hid fun w => toSheet_any s w
  have hB : Hid (Below w.heap.size w (w.alloc (.cells (vrow 266 s.at) 31))) := Go.Lib.hid ((Below.refl w.heap.size w).alloc (by simp <;> omega) _)
  have P : Hid ((w.alloc (.cells (vrow 266 s.at) 31)).heap[w.heap.size]? = some (.cells (vrow 266 s.at) 31)) := Go.Lib.hid (heap_at _ _ _ (by simp))
  have HP := Go.Lib.hid (hp.next hB.out)
  have HZ := Go.Lib.hid fun w => szS_any ao n cap hm w
  clear hp
  by_cases hn : n ≤ 1048576
  · have hd : decide ((1048576 : Int) - (n : Int) < 0) = false := by simp; omega
    have HZ' := Go.Lib.hid fun w => by have h := HZ.out w; rw [if_pos hn] at h; exact h
    have HC := Go.Lib.hid fun w h => toSpotS_any ao n cap px py w hn h
    have HS := Go.Lib.hid (hS hn)
    have HI := Go.Lib.hid (hI hn)
    have HQ := Go.Lib.hid fun D D' w h h' => eqSpotS_any D D' n px py w hn h h'
    clear HZ hS hI
    have F0 : Hid True := Go.Lib.hid trivial
    have F1 : Hid True := Go.Lib.hid trivial
    go_enter Tryd.func7, Tryd.ntmps7
    go_wp2_with (first
      | go_skip
      | ((with_reducible refine wlAt 17 rfl ?_); refine wpList_loadall rfl 31 (.tmp 2) rfl _ rfl 266 s.at 31 _ Tryd.underlying31 rfl size_lsheet P.out ?_)
      | ((with_reducible refine wlAt 27 rfl ?_); refine wpList_loadall rfl 31 (.tmp 2) rfl _ rfl 266 s.at 31 _ Tryd.underlying31 rfl size_lsheet P.out ?_)
      | (go_at_call 25; ((with_reducible refine (HZ'.out _).mono ?_)); rintro e w1 ⟨rfl, hb⟩; replace P := Go.Lib.hid (row_next hb P.out); replace HP := Go.Lib.hid (HP.out.next hb); replace hB := Go.Lib.hid (below_next hB.out hb); clear hb)
      | (go_at_call 16; ((with_reducible refine (HT.out _).mono ?_)); rintro e w1 ⟨rfl, hb⟩; (try (replace R1 := Go.Lib.hid (row_next hb R1.out))); (try (replace R2 := Go.Lib.hid (row_next hb R2.out))); (try (replace V6 := Go.Lib.hid (row_next hb V6.out))); replace P := Go.Lib.hid (row_next hb P.out); replace HP := Go.Lib.hid (HP.out.next hb); replace hB := Go.Lib.hid (below_next hB.out hb); clear hb)
      | (go_at_call 27; (refine (HC.out _ HP.out).mono ?_); rintro e w1 ⟨D1, rfl, hD, hb⟩; (try (replace R2 := Go.Lib.hid (row_next hb R2.out))); (try (replace V6 := Go.Lib.hid (row_next hb V6.out))); (first | (replace F0 := F0.out; clear F0; have R1 := Go.Lib.hid hD) | (replace F1 := F1.out; clear F1; have R2 := Go.Lib.hid hD) | (have R3 := Go.Lib.hid hD)); clear hD; replace P := Go.Lib.hid (row_next hb P.out); replace HP := Go.Lib.hid (HP.out.next hb); replace hB := Go.Lib.hid (below_next hB.out hb); clear hb)
      | (go_at_call 26; (refine (HS.out _ _ R1.out).mono ?_); rintro e w5 ⟨rfl, hb⟩; clear R1; replace P := Go.Lib.hid (row_next hb P.out); replace HP := Go.Lib.hid (HP.out.next hb); replace hB := Go.Lib.hid (below_next hB.out hb); clear hb)
      | ((with_reducible refine wlOp (.store 32 (.tmp 6) (.tmp 22)) rfl ?_); refine wpList_storeall rfl 32 (.tmp 6) (.tmp 22) rfl _ rfl 266 Sh.zero.at r.at rfl 32 size_sheet (heap_at _ _ _ rfl) (fun i _ => Sh.one _ i) ?_; rw [setRow_at _ _ _ _ _ rfl]; have V6 := Go.Lib.hid (heap_at w5 (.cells (vrow 266 r.at) 32) _ rfl); have nP := row_lt P.out; replace P := Go.Lib.hid (heap_past _ (.cells (vrow 266 r.at) 32) _ _ nP P.out); clear nP; replace HP := Go.Lib.hid (HP.out.next ((Below.refl _ _).alloc (Nat.le_refl _) (.cells (vrow 266 r.at) 32))); replace hB := Go.Lib.hid (hB.out.alloc hB.out.size (.cells (vrow 266 r.at) 32)); generalize w5.heap.size = bV6 at V6 ⊢; generalize w5.alloc _ = w5x at P HP V6 hB ⊢)
      | (go_at_call 28; (refine (HI.out _ _ (hE.next hB.out) R2.out).mono ?_); rintro e w7 ⟨rfl, hb⟩; replace R2 := Go.Lib.hid (row_next hb R2.out); replace V6 := Go.Lib.hid (row_next hb V6.out); replace P := Go.Lib.hid (row_next hb P.out); replace HP := Go.Lib.hid (HP.out.next hb); replace hB := Go.Lib.hid (below_next hB.out hb); clear hb)
      | ((with_reducible refine wlOp (.store 32 (.tmp 9) (.tmp 31)) rfl ?_); refine wpList_storeall rfl 32 (.tmp 9) (.tmp 31) rfl _ rfl 266 Sh.zero.at r.at rfl 32 size_sheet (heap_at _ _ _ rfl) (fun i _ => Sh.one _ i) ?_; rw [setRow_at _ _ _ _ _ rfl]; have V9 := Go.Lib.hid (heap_at w7 (.cells (vrow 266 r.at) 32) _ rfl); have nP := row_lt P.out; replace P := Go.Lib.hid (heap_past _ (.cells (vrow 266 r.at) 32) _ _ nP P.out); clear nP; have nR2 := row_lt R2.out; replace R2 := Go.Lib.hid (heap_past _ (.cells (vrow 266 r.at) 32) _ _ nR2 R2.out); clear nR2; have nV6 := row_lt V6.out; replace V6 := Go.Lib.hid (heap_past _ (.cells (vrow 266 r.at) 32) _ _ nV6 V6.out); clear nV6; replace HP := Go.Lib.hid (HP.out.next ((Below.refl _ _).alloc (Nat.le_refl _) (.cells (vrow 266 r.at) 32))); replace hB := Go.Lib.hid (hB.out.alloc hB.out.size (.cells (vrow 266 r.at) 32)); generalize w7.heap.size = bV9 at V9 ⊢; generalize w7.alloc _ = w7x at P R2 V6 HP V9 hB ⊢)
      | ((with_reducible refine wlAt 33 rfl ?_); refine wpList_loadall rfl 32 (.tmp 9) rfl _ rfl 266 r.at 32 _ Tryd.underlying32 rfl size_sheet V9.out ?_)
      | ((with_reducible refine wlAt 34 rfl ?_); refine wpList_loadall rfl 32 (.tmp 6) rfl _ rfl 266 r.at 32 _ Tryd.underlying32 rfl size_sheet V6.out ?_)
      | (go_at_call 18; (refine (eqSheet_any r _).mono ?_); rintro e w1 ⟨rfl, hb⟩; replace R2 := Go.Lib.hid (row_next hb R2.out); replace P := Go.Lib.hid (row_next hb P.out); replace HP := Go.Lib.hid (HP.out.next hb); replace hB := Go.Lib.hid (below_next hB.out hb); clear hb)
      | (go_at_call 29; (refine (HQ.out _ _ _ R2.out R3.out).mono ?_); rintro e w1 ⟨rfl, hb⟩; replace P := Go.Lib.hid (row_next hb P.out); replace HP := Go.Lib.hid (HP.out.next hb); replace hB := Go.Lib.hid (below_next hB.out hb); clear hb))
    go_ret
    exact ⟨rfl, hB.out⟩
  · have hd : decide ((-1 : Int) < 0) = true := by simp
    have HZ' := Go.Lib.hid fun w => by have h := HZ.out w; rw [if_neg hn] at h; exact h
    clear HZ hS hI
    go_enter Tryd.func7, Tryd.ntmps7
    go_wp2_with (first
      | go_skip
      | (go_at_call 25; ((with_reducible refine (HZ'.out _).mono ?_)); rintro e w1 ⟨rfl, hb⟩; replace P := Go.Lib.hid (row_next hb P.out); replace HP := Go.Lib.hid (HP.out.next hb); replace hB := Go.Lib.hid (below_next hB.out hb); clear hb))
    go_ret
    exact ⟨rfl, hB.out⟩
theorem wxp_law (s : Sh) (ao : Option Addr) (n cap : Nat) (px py : Nat → Int) (e : ErrE) (w : World) (hE : Errs e w) (hf : s.fit) (hm : n ≤ 9223372036854775807) (hpx : ∀ i, i < n → -128 ≤ px i ∧ px i ≤ 127) (hpy : ∀ i, i < n → -128 ≤ py i ∧ py i ≤ 127) (hp : PathC w ao n px py) :
    Calls Tryd.prog 7 #[.agg s.row, .slice ao n cap] w fun o w' => o = .returned (.bool true) ∧ Below w.heap.size w w' := by
  cases ho : okI s
  · exact wxp_walk s Sh.zero 1 ao n cap px py e w hE hm hp (fun hn D w hD => specWx_bad s D n px py w hf hn hD ho) (fun hn D w hE hD => implWx_err s D n px py w hf hn hD 1 1 e hE (fun w hE hD => ckPath_bad s D n px py w hf hn hD e hE ho) (fun w hE => codeOf_1 e w hE))
  · cases hv : (pathU s px py n && lenB n)
    · refine wxp_walk s Sh.zero 2 ao n cap px py e w hE hm hp (fun hn D w hD => specWx_rng s D n px py w hf hn hpx hpy hD ho hv) (fun hn D w hE hD => implWx_err s D n px py w hf hn hD 2 2 e hE (fun w hE hD => ?_) (fun w hE => codeOf_2 e w hE))
      exact ckPath_any s D n px py w hf hn hD e hE ho false hv
    · obtain ⟨h1, h2⟩ : pathU s px py n = true ∧ lenB n = true := by simpa using hv
      exact wxp_walk s (wxR s px py n) (wxC s px py n) ao n cap px py e w hE hm hp (fun hn D w hD => specWx_ok s D n px py w hf hn hpx hpy hD ho h1 h2) (fun hn D w hE hD => implWx_ok s D n px py w hf hn hD e hE ho h1 h2)
end Go.Proofs.YtfkialifnkfgcaaDoor
