import Derived.Test.YthienbbecbakjaaDoorLpJ
import Derived.Test.YthienbbecbakjaaDoorLpS
import Derived.Test.YthienbbecbakjaaDoorVD
import Derived.Test.YthienbbecbakjaaDoorEqSheet
namespace Go.Proofs.YthienbbecbakjaaDoor
open Go.RowKit
set_option maxRecDepth 100000
set_option linter.unusedVariables false
set_option linter.unusedSimpArgs false
set_option maxRecDepth 100000 in
set_option maxHeartbeats 8000000 in
theorem lp_walk (s : Sh) (ao : Option Addr) (n cap : Nat) (px py : Nat → Int) (ra : Int) (rc : Int) (e : ErrE) (w : World) (hE : Errs e w) (hm : n ≤ 9223372036854775807) (hp : PathC w ao n px py)
    (hS : n ≤ 1048576 → ∀ D w, w.heap[D]? = some (.cells (vrow (n * 2) (spf px py)) 61) → Calls Tryd.prog 22 #[.agg s.row, .slice (some ⟨D, 0, none⟩) n n] w fun o w' => o = .returned (.tuple #[.int .i64 ra, .int .i64 rc]) ∧ Below w.heap.size w w')
    (hI : n ≤ 1048576 → ∀ D w, Errs e w → w.heap[D]? = some (.cells (vrow (n * 2) (spf px py)) 61) → Calls Tryd.prog 23 #[.agg s.row, .slice (some ⟨D, 0, none⟩) n n] w fun o w' => o = .returned (.tuple #[.int .i64 ra, .int .i64 rc]) ∧ Below w.heap.size w w') :
    Calls Tryd.prog 7 #[.agg s.row, .slice ao n cap] w fun o w' => o = .returned (.bool true) ∧ Below w.heap.size w w' := by
  have HT := Go.Lib.hid fun w => toSheet_any s w
  have hB : Hid (Below w.heap.size w (w.alloc (.cells (vrow 266 s.at) 31))) := Go.Lib.hid ((Below.refl w.heap.size w).alloc (by simp <;> omega) _)
  have P : Hid ((w.alloc (.cells (vrow 266 s.at) 31)).heap[w.heap.size]? = some (.cells (vrow 266 s.at) 31)) := Go.Lib.hid (heap_at _ _ _ (by simp))
  have HP := Go.Lib.hid (hp.next hB.out)
  have HZ := Go.Lib.hid fun w => szS_any ao n cap hm w
  clear hp
  by_cases hn : n ≤ 1048576
  · have hd : decide ((1048576 : Int) - (n : Int) < 0) = false := by simp; omega
    have HZ' := Go.Lib.hid fun w => by have h := HZ.out w; rw [if_pos hn] at h; exact h
    have HC := Go.Lib.hid fun w h => toSpotS_new ao n cap px py w hn h
    have HS := Go.Lib.hid (hS hn)
    have HI := Go.Lib.hid (hI hn)
    have HQ := Go.Lib.hid fun D D' w h h' => eqSpotS_any D D' n px py w hn h h'
    clear HZ hS hI
    have F0 : Hid True := Go.Lib.hid trivial
    have F1 : Hid True := Go.Lib.hid trivial
    go_enter Tryd.func7, Tryd.ntmps7
    go_wp2_with (first
      | go_skip
      | ((with_reducible refine wlAt 17 rfl ?_); refine wpList_loadall rfl 31 (.tmp 2) rfl _ rfl 266 s.at 31 _ Tryd.underlying31 rfl size_lsheet P.out ?_)
      | ((with_reducible refine wlAt 27 rfl ?_); refine wpList_loadall rfl 31 (.tmp 2) rfl _ rfl 266 s.at 31 _ Tryd.underlying31 rfl size_lsheet P.out ?_)
      | (go_at_call 8; ((with_reducible refine (HZ'.out _).mono ?_)); rintro e w1 ⟨rfl, hb⟩; (try (replace R1 := Go.Lib.hid (row_next hb R1.out))); (try (replace R2 := Go.Lib.hid (row_next hb R2.out))); (try (replace R3 := Go.Lib.hid (row_next hb R3.out))); (try (replace R4 := Go.Lib.hid (row_next hb R4.out))); replace P := Go.Lib.hid (row_next hb P.out); replace HP := Go.Lib.hid (HP.out.next hb); replace hB := Go.Lib.hid (below_next hB.out hb); clear hb)
      | (go_at_call 10; ((with_reducible refine (HT.out _).mono ?_)); rintro e w1 ⟨rfl, hb⟩; (try (replace R1 := Go.Lib.hid (row_next hb R1.out))); (try (replace R2 := Go.Lib.hid (row_next hb R2.out))); (try (replace R3 := Go.Lib.hid (row_next hb R3.out))); (try (replace R4 := Go.Lib.hid (row_next hb R4.out))); replace P := Go.Lib.hid (row_next hb P.out); replace HP := Go.Lib.hid (HP.out.next hb); replace hB := Go.Lib.hid (below_next hB.out hb); clear hb)
      | (go_at_call 11; replace F0 := F0.out; clear F0; (refine (HC.out _ HP.out).mono ?_); rintro e w1 ⟨rfl, hD, hb⟩; (try (replace R1 := Go.Lib.hid (row_next hb R1.out))); (try (replace R2 := Go.Lib.hid (row_next hb R2.out))); (try (replace R3 := Go.Lib.hid (row_next hb R3.out))); (try (replace R4 := Go.Lib.hid (row_next hb R4.out))); replace P := Go.Lib.hid (row_next hb P.out); replace HP := Go.Lib.hid (HP.out.next hb); replace hB := Go.Lib.hid (below_next hB.out hb); clear hb; have R1 := Go.Lib.hid hD; clear hD)
      | (go_at_call 11; replace F1 := F1.out; clear F1; (refine (HC.out _ HP.out).mono ?_); rintro e w1 ⟨rfl, hD, hb⟩; (try (replace R1 := Go.Lib.hid (row_next hb R1.out))); (try (replace R2 := Go.Lib.hid (row_next hb R2.out))); (try (replace R3 := Go.Lib.hid (row_next hb R3.out))); (try (replace R4 := Go.Lib.hid (row_next hb R4.out))); replace P := Go.Lib.hid (row_next hb P.out); replace HP := Go.Lib.hid (HP.out.next hb); replace hB := Go.Lib.hid (below_next hB.out hb); clear hb; have R2 := Go.Lib.hid hD; clear hD)
      | (go_at_call 11; (refine (HC.out _ HP.out).mono ?_); rintro e w1 ⟨rfl, hD, hb⟩; (try (replace R1 := Go.Lib.hid (row_next hb R1.out))); (try (replace R2 := Go.Lib.hid (row_next hb R2.out))); (try (replace R3 := Go.Lib.hid (row_next hb R3.out))); (try (replace R4 := Go.Lib.hid (row_next hb R4.out))); replace P := Go.Lib.hid (row_next hb P.out); replace HP := Go.Lib.hid (HP.out.next hb); replace hB := Go.Lib.hid (below_next hB.out hb); clear hb; have R3 := Go.Lib.hid hD; clear hD)
      | (go_at_call 22; (refine (HS.out _ _ R1.out).mono ?_); rintro e w5 ⟨rfl, hb⟩; clear R1; (try (replace R1 := Go.Lib.hid (row_next hb R1.out))); (try (replace R2 := Go.Lib.hid (row_next hb R2.out))); (try (replace R3 := Go.Lib.hid (row_next hb R3.out))); (try (replace R4 := Go.Lib.hid (row_next hb R4.out))); replace P := Go.Lib.hid (row_next hb P.out); replace HP := Go.Lib.hid (HP.out.next hb); replace hB := Go.Lib.hid (below_next hB.out hb); clear hb)
      | (go_at_call 23; (refine (HI.out _ _ (hE.next hB.out) R2.out).mono ?_); rintro e w7 ⟨rfl, hb⟩; (try (replace R1 := Go.Lib.hid (row_next hb R1.out))); (try (replace R2 := Go.Lib.hid (row_next hb R2.out))); (try (replace R3 := Go.Lib.hid (row_next hb R3.out))); (try (replace R4 := Go.Lib.hid (row_next hb R4.out))); replace P := Go.Lib.hid (row_next hb P.out); replace HP := Go.Lib.hid (HP.out.next hb); replace hB := Go.Lib.hid (below_next hB.out hb); clear hb)
      | (go_at_call 13; (refine (HQ.out _ _ _ R2.out R3.out).mono ?_); rintro e w1 ⟨rfl, hb⟩; (try (replace R1 := Go.Lib.hid (row_next hb R1.out))); (try (replace R2 := Go.Lib.hid (row_next hb R2.out))); (try (replace R3 := Go.Lib.hid (row_next hb R3.out))); (try (replace R4 := Go.Lib.hid (row_next hb R4.out))); replace P := Go.Lib.hid (row_next hb P.out); replace HP := Go.Lib.hid (HP.out.next hb); replace hB := Go.Lib.hid (below_next hB.out hb); clear hb))
    go_ret
    exact ⟨rfl, hB.out⟩
  · have hd : decide ((-1 : Int) < 0) = true := by simp
    have HZ' := Go.Lib.hid fun w => by have h := HZ.out w; rw [if_neg hn] at h; exact h
    clear HZ hS hI
    go_enter Tryd.func7, Tryd.ntmps7
    go_wp2_with (first
      | go_skip
      | (go_at_call 8; ((with_reducible refine (HZ'.out _).mono ?_)); rintro e w1 ⟨rfl, hb⟩; replace hB := Go.Lib.hid (below_next hB.out hb); clear hb))
    go_ret
    exact ⟨rfl, hB.out⟩
theorem lp_law (s : Sh) (ao : Option Addr) (n cap : Nat) (px py : Nat → Int) (e : ErrE) (w : World) (hE : Errs e w) (hf : s.fit) (hm : n ≤ 9223372036854775807) (hpx : ∀ i, i < n → -128 ≤ px i ∧ px i ≤ 127) (hpy : ∀ i, i < n → -128 ≤ py i ∧ py i ≤ 127) (hp : PathC w ao n px py) :
    Calls Tryd.prog 7 #[.agg s.row, .slice ao n cap] w fun o w' => o = .returned (.bool true) ∧ Below w.heap.size w w' := by
  cases ho : okI s
  · exact lp_walk s ao n cap px py 0 1 e w hE hm hp (fun hn D w hD => lps_bad s D n 1 px py w (.inl rfl) hD (fun b w h1 h2 => bck_bad s b D n 1 px py w (.inl rfl) hn h1 h2 fun w h1 h2 => asked_bad s b D n px py w hn hf h1 h2 ho)) (fun hn D w hE hD => lpj_err s D n 1 1 px py e w hE hD (fun w hE hD => ckUnw_bad s D n px py e w hn hE hD hf ho) (fun w hE => codeOf_1 e w hE))
  · cases hin : insL s px py n
    · exact lp_walk s ao n cap px py 0 2 e w hE hm hp (fun hn D w hD => lps_bad s D n 2 px py w (.inr (.inl rfl)) hD (fun b w h1 h2 => bck_bad s b D n 2 px py w (.inr rfl) hn h1 h2 fun w h1 h2 => asked_any s b D n px py w hn hf h1 h2 hpx hpy ho false hin)) (fun hn D w hE hD => lpj_err s D n 2 2 px py e w hE hD (fun w hE hD => ckUnw_out s D n px py e w hn hE hD hf ho hin) (fun w hE => codeOf_2 e w hE))
    · cases hw : waxL s px py n
      · obtain ⟨a, c, ea, ec, ha, hc⟩ := fitW' s ho
        refine lp_walk s ao n cap px py (upTo (pastP s (dryL s (cellsL a c)) (mkA px py n)) 16 0) 0 e w hE hm hp (fun hn D w hD => ?_) (fun hn D w hE hD => lpj_ok s D n px py a c e w hE hn ea ec ha.2 hc.2 hf ho hin hw hD)
        have h := lps_ok s D n px py _ w hn hf ho hin rfl hD fun b w h1 h2 => bck_any s b D n px py false w hn ho hin hw h1 h2 (fun w h1 h2 => asked_any s b D n px py w hn hf h1 h2 hpx hpy ho true hin)
        rw [upTo_congr (fun k => past_eq ho ea ec ha.2 hc.2 (mkA_free ho hin hw) k)] at h
        exact h
      · exact lp_walk s ao n cap px py 0 4 e w hE hm hp (fun hn D w hD => lps_bad s D n 4 px py w (.inr (.inr rfl)) hD (fun b w h1 h2 => bck_any s b D n px py true w hn ho hin hw h1 h2 (fun w h1 h2 => asked_any s b D n px py w hn hf h1 h2 hpx hpy ho true hin))) (fun hn D w hE hD => lpj_err s D n 4 4 px py e w hE hD (fun w hE hD => ckUnw_any s D n px py e w hn hE hD hf ho hin true hw) (fun w hE => codeOf_4 e w hE))
end Go.Proofs.YthienbbecbakjaaDoor
