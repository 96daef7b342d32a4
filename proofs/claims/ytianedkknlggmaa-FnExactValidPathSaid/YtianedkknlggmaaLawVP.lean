import Derived.Deep.RegionHeld3
import Derived.Test.YtianedkknlggmaaPathV
import Derived.Test.YtianedkknlggmaaEqSheet
namespace Go.Proofs.Ytianedkknlggmaa
open Go.RowKit
set_option maxRecDepth 100000
set_option linter.unusedVariables false
set_option linter.unusedSimpArgs false
set_option maxRecDepth 100000 in
set_option maxHeartbeats 2000000 in
theorem vp_law (s : Sh) (ao : Option Addr) (n cap : Nat) (px py : Nat → Int) (w : World) (hf : s.fit) (hm : n ≤ 9223372036854775807) (hpx : ∀ i, i < n → -128 ≤ px i ∧ px i ≤ 127) (hpy : ∀ i, i < n → -128 ≤ py i ∧ py i ≤ 127) (hp : PathC w ao n px py) : Calls Try.prog 8 #[.agg s.row, .slice ao n cap] w fun e w' => e = .returned (.bool true) ∧ Below w.heap.size w w' := by
  have HT := Go.Lib.hid fun w => toSheet_any s w
  have hB : Hid (Below w.heap.size w (w.alloc (.cells (vrow 266 s.at) 31))) := Go.Lib.hid ((Below.refl w.heap.size w).alloc (by simp <;> omega) _)
  have P : Hid ((w.alloc (.cells (vrow 266 s.at) 31)).heap[w.heap.size]? = some (.cells (vrow 266 s.at) 31)) := Go.Lib.hid (heap_at _ _ _ (by simp))
  have HP := Go.Lib.hid (hp.next hB.out)
  have HZ := Go.Lib.hid fun w => szS_any ao n cap hm w
  clear hp
  by_cases hn : n ≤ 1048576
  · have hd : decide ((1048576 : Int) - (n : Int) < 0) = false := by simp; omega
    have HZ' := Go.Lib.hid fun w => by have h := HZ.out w; rw [if_pos hn] at h; exact h
    have HC := Go.Lib.hid fun w h => toSpotS_any ao n cap px py w hn h
    have HS := Go.Lib.hid fun D w h => specVP_any s D n px py w hf hn hpx hpy h
    have HI := Go.Lib.hid fun D w h => implVP_any s D n px py w hf hn h
    have HQ := Go.Lib.hid fun D D' w h h' => eqSpotS_any D D' n px py w hn h h'
    clear HZ
    generalize vpathB s px py n = vb at *
    have F0 : Hid True := Go.Lib.hid trivial
    have F1 : Hid True := Go.Lib.hid trivial
    go_enter Try.func8, Try.ntmps8
    go_wp2_with (first
      | go_skip
      | ((with_reducible refine wlAt 14 rfl ?_); refine wpList_loadall rfl 31 (.tmp 2) rfl _ rfl 266 s.at 31 _ Try.underlying31 rfl size_lsheet P.out ?_)
      | ((with_reducible refine wlAt 21 rfl ?_); refine wpList_loadall rfl 31 (.tmp 2) rfl _ rfl 266 s.at 31 _ Try.underlying31 rfl size_lsheet P.out ?_)
      | (go_at_call 25; ((with_reducible refine (HZ'.out _).mono ?_)); rintro e w1 ⟨rfl, hb⟩; replace P := Go.Lib.hid (row_next hb P.out); replace HP := Go.Lib.hid (HP.out.next hb); replace hB := Go.Lib.hid (below_next hB.out hb); clear hb)
      | (go_at_call 16; ((with_reducible refine (HT.out _).mono ?_)); rintro e w1 ⟨rfl, hb⟩; (try (replace R1 := Go.Lib.hid (row_next hb R1.out))); (try (replace R2 := Go.Lib.hid (row_next hb R2.out))); replace P := Go.Lib.hid (row_next hb P.out); replace HP := Go.Lib.hid (HP.out.next hb); replace hB := Go.Lib.hid (below_next hB.out hb); clear hb)
      | (go_at_call 27; (refine (HC.out _ HP.out).mono ?_); rintro e w1 ⟨D1, rfl, hD, hb⟩; (try (replace R2 := Go.Lib.hid (row_next hb R2.out))); (first | (replace F0 := F0.out; clear F0; have R1 := Go.Lib.hid hD) | (replace F1 := F1.out; clear F1; have R2 := Go.Lib.hid hD) | (have R3 := Go.Lib.hid hD)); clear hD; replace P := Go.Lib.hid (row_next hb P.out); replace HP := Go.Lib.hid (HP.out.next hb); replace hB := Go.Lib.hid (below_next hB.out hb); clear hb)
      | (go_at_call 32; (refine (HS.out _ _ R1.out).mono ?_); rintro e w1 ⟨rfl, hb⟩; clear R1; replace P := Go.Lib.hid (row_next hb P.out); replace HP := Go.Lib.hid (HP.out.next hb); replace hB := Go.Lib.hid (below_next hB.out hb); clear hb)
      | (go_at_call 33; (refine (HI.out _ _ R2.out).mono ?_); rintro e w1 ⟨rfl, hb⟩; replace R2 := Go.Lib.hid (row_next hb R2.out); replace P := Go.Lib.hid (row_next hb P.out); replace HP := Go.Lib.hid (HP.out.next hb); replace hB := Go.Lib.hid (below_next hB.out hb); clear hb)
      | (go_at_call 29; (refine (HQ.out _ _ _ R2.out R3.out).mono ?_); rintro e w1 ⟨rfl, hb⟩; replace P := Go.Lib.hid (row_next hb P.out); replace HP := Go.Lib.hid (HP.out.next hb); replace hB := Go.Lib.hid (below_next hB.out hb); clear hb))
    go_ret
    exact ⟨rfl, hB.out⟩
  · have HZ' := Go.Lib.hid fun w => by have h := HZ.out w; rw [if_neg hn] at h; exact h
    clear HZ
    go_enter Try.func8, Try.ntmps8
    go_wp2_with (first
      | go_skip
      | (go_at_call 25; ((with_reducible refine (HZ'.out _).mono ?_)); rintro e w1 ⟨rfl, hb⟩; replace P := Go.Lib.hid (row_next hb P.out); replace HP := Go.Lib.hid (HP.out.next hb); replace hB := Go.Lib.hid (below_next hB.out hb); clear hb))
    go_ret
    exact ⟨rfl, hB.out⟩
end Go.Proofs.Ytianedkknlggmaa
