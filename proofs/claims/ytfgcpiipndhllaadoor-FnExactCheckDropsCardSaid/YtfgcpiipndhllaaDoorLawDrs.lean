import Derived.Test.YtfgcpiipndhllaaDoorDG
import Derived.Test.YtfgcpiipndhllaaDoorDrF
import Derived.Test.YtfgcpiipndhllaaDoorOpenDr
namespace Go.Proofs.YtfgcpiipndhllaaDoor
open Go.RowKit
set_option maxRecDepth 100000
set_option linter.unusedVariables false
set_option linter.unusedSimpArgs false
set_option maxRecDepth 100000 in
set_option maxHeartbeats 4000000 in
theorem alld_walk (p : Pic) (ao : Option Addr) (n cap : Nat) (px py pn : Nat → Int) (q : Pic) (k : Int) (e : ErrE) (w : World) (hE : Errs e w) (hm : n ≤ 9223372036854775807) (hp : DrsC w ao n px py pn)
    (hS : n ≤ 1048576 → ∀ D w, w.heap[D]? = some (.cells (vrow (n * 3) (drf px py pn)) 66) → Calls Tryd.prog 33 #[.agg p.row, .slice (some ⟨D, 0, none⟩) n n] w fun o w' => o = .returned (.tuple #[.agg q.row, .int .i64 k]) ∧ Below w.heap.size w w')
    (hI : n ≤ 1048576 → ∀ D w, Errs e w → w.heap[D]? = some (.cells (vrow (n * 3) (drf px py pn)) 66) → Calls Tryd.prog 35 #[.agg p.row, .slice (some ⟨D, 0, none⟩) n n] w fun o w' => o = .returned (.tuple #[.agg q.row, .int .i64 k]) ∧ Below w.heap.size w w') :
    Calls Tryd.prog 7 #[.agg p.row, .slice ao n cap] w fun o w' => o = .returned (.bool true) ∧ Below w.heap.size w w' := by
  have HT := Go.Lib.hid fun w => toPicture_any p w
  have HZ := Go.Lib.hid fun w => szD_any ao n cap hm w
  have zz := zero_pic
  have P : Hid ((w.alloc (.cells (vrow 66 p.at) 58)).heap[w.heap.size]? = some (.cells (vrow 66 p.at) 58)) := (heap_at _ _ _ (by simp))
  have hB : Hid (Below w.heap.size w (w.alloc (.cells (vrow 66 p.at) 58))) := Go.Lib.hid ((Below.refl w.heap.size w).alloc (by simp <;> omega) _)
  have E : Hid (Errs e (w.alloc (.cells (vrow 66 p.at) 58))) := Go.Lib.hid (hE.alloc _)
  have HP := Go.Lib.hid (hp.next ((Below.refl w.heap.size w).alloc (Nat.le_refl _) (.cells (vrow 66 p.at) 58)))
  clear hp
  by_cases hn : n ≤ 1048576
  · have hd : decide ((1048576 : Int) - (n : Int) < 0) = false := by simp; omega
    have HZ' := Go.Lib.hid fun w => by have h := HZ.out w; rw [if_pos hn] at h; exact h
    have HC := Go.Lib.hid fun w h => toDropS_any ao n cap px py pn w hn h
    have HS := Go.Lib.hid (hS hn)
    have HI := Go.Lib.hid (hI hn)
    have HQ := Go.Lib.hid fun D D' w h h' => eqDropS_any D D' n px py pn w hn h h'
    have F0 : Hid True := Go.Lib.hid trivial
    have F1 : Hid True := Go.Lib.hid trivial
    clear HZ hS hI
    go_enter Tryd.func7, Tryd.ntmps7
    go_wp2_with (first
      | go_skip
      | ((with_reducible refine wlAt 17 rfl ?_); refine wpList_loadall rfl 58 (.tmp 2) rfl _ rfl 66 p.at 58 _ Tryd.underlying58 rfl size_lpic P.out ?_)
      | ((with_reducible refine wlAt 27 rfl ?_); refine wpList_loadall rfl 58 (.tmp 2) rfl _ rfl 66 p.at 58 _ Tryd.underlying58 rfl size_lpic P.out ?_)
      | ((with_reducible refine wlOp (.store 61 (.tmp 6) (.tmp 22)) rfl ?_); refine wpList_storeall rfl 61 (.tmp 6) (.tmp 22) rfl _ rfl 66 Pic.zero.at q.at rfl 61 size_pic (heap_at _ _ _ rfl) (fun i _ => Pic.one _ i) ?_; rw [setRow_at _ _ _ _ _ rfl]; (try (replace P := Go.Lib.hid (heap_past w1 (.cells (vrow 66 q.at) 61) _ _ (row_lt P.out) P.out))); (try (replace D2 := Go.Lib.hid (heap_past w1 (.cells (vrow 66 q.at) 61) _ _ (row_lt D2.out) D2.out))); (try (replace U := Go.Lib.hid (heap_past w1 (.cells (vrow 66 q.at) 61) _ _ (row_lt U.out) U.out))); have U := Go.Lib.hid (heap_at w1 (.cells (vrow 66 q.at) 61) _ rfl); replace HP := Go.Lib.hid (HP.out.next ((Below.refl _ _).alloc (Nat.le_refl _) (.cells (vrow 66 q.at) 61))); replace E := Go.Lib.hid (E.out.alloc (.cells (vrow 66 q.at) 61)); replace hB := Go.Lib.hid (hB.out.alloc hB.out.size (.cells (vrow 66 q.at) 61)))
      | ((with_reducible refine wlOp (.store 61 (.tmp 9) (.tmp 31)) rfl ?_); refine wpList_storeall rfl 61 (.tmp 9) (.tmp 31) rfl _ rfl 66 Pic.zero.at q.at rfl 61 size_pic (heap_at _ _ _ rfl) (fun i _ => Pic.one _ i) ?_; rw [setRow_at _ _ _ _ _ rfl]; (try (replace P := Go.Lib.hid (heap_past w1 (.cells (vrow 66 q.at) 61) _ _ (row_lt P.out) P.out))); (try (replace D2 := Go.Lib.hid (heap_past w1 (.cells (vrow 66 q.at) 61) _ _ (row_lt D2.out) D2.out))); (try (replace U := Go.Lib.hid (heap_past w1 (.cells (vrow 66 q.at) 61) _ _ (row_lt U.out) U.out))); have V := Go.Lib.hid (heap_at w1 (.cells (vrow 66 q.at) 61) _ rfl); replace HP := Go.Lib.hid (HP.out.next ((Below.refl _ _).alloc (Nat.le_refl _) (.cells (vrow 66 q.at) 61))); replace E := Go.Lib.hid (E.out.alloc (.cells (vrow 66 q.at) 61)); replace hB := Go.Lib.hid (hB.out.alloc hB.out.size (.cells (vrow 66 q.at) 61)))
      | ((with_reducible refine wlAt 33 rfl ?_); refine wpList_loadall rfl 61 (.tmp 9) rfl _ rfl 66 q.at 61 _ Tryd.underlying61 rfl size_pic V.out ?_)
      | ((with_reducible refine wlAt 34 rfl ?_); refine wpList_loadall rfl 61 (.tmp 6) rfl _ rfl 66 q.at 61 _ Tryd.underlying61 rfl size_pic U.out ?_)
      | (go_at_call 31; (refine (eqPicture_any q _).mono ?_); rintro o w1 ⟨rfl, hb⟩; (try (replace D1 := Go.Lib.hid (row_next hb D1.out))); (try (replace D2 := Go.Lib.hid (row_next hb D2.out))); (try (replace D3 := Go.Lib.hid (row_next hb D3.out))); (try (replace U := Go.Lib.hid (row_next hb U.out))); (try (replace V := Go.Lib.hid (row_next hb V.out))); replace P := Go.Lib.hid (row_next hb P.out); replace HP := Go.Lib.hid (HP.out.next hb); replace hB := Go.Lib.hid (below_next hB.out hb); replace E := Go.Lib.hid (E.out.next hb); clear hb)
      | (go_at_call 32; (refine (HZ'.out _).mono ?_); rintro o w1 ⟨rfl, hb⟩; (try (replace D1 := Go.Lib.hid (row_next hb D1.out))); (try (replace D2 := Go.Lib.hid (row_next hb D2.out))); (try (replace D3 := Go.Lib.hid (row_next hb D3.out))); (try (replace U := Go.Lib.hid (row_next hb U.out))); (try (replace V := Go.Lib.hid (row_next hb V.out))); replace P := Go.Lib.hid (row_next hb P.out); replace HP := Go.Lib.hid (HP.out.next hb); replace hB := Go.Lib.hid (below_next hB.out hb); replace E := Go.Lib.hid (E.out.next hb); clear hb)
      | (go_at_call 28; (refine (HT.out _).mono ?_); rintro o w1 ⟨rfl, hb⟩; (try (replace D1 := Go.Lib.hid (row_next hb D1.out))); (try (replace D2 := Go.Lib.hid (row_next hb D2.out))); (try (replace D3 := Go.Lib.hid (row_next hb D3.out))); (try (replace U := Go.Lib.hid (row_next hb U.out))); (try (replace V := Go.Lib.hid (row_next hb V.out))); replace P := Go.Lib.hid (row_next hb P.out); replace HP := Go.Lib.hid (HP.out.next hb); replace hB := Go.Lib.hid (below_next hB.out hb); replace E := Go.Lib.hid (E.out.next hb); clear hb)
      | (go_at_call 34; (refine (HC.out _ HP.out).mono ?_); rintro o w1 ⟨Dn, rfl, hD, _, hb⟩; (try (replace D1 := Go.Lib.hid (row_next hb D1.out))); (try (replace D2 := Go.Lib.hid (row_next hb D2.out))); (try (replace D3 := Go.Lib.hid (row_next hb D3.out))); (try (replace U := Go.Lib.hid (row_next hb U.out))); (try (replace V := Go.Lib.hid (row_next hb V.out))); (first | (replace F0 := F0.out; clear F0; have D1 := Go.Lib.hid hD) | (replace F1 := F1.out; clear F1; have D2 := Go.Lib.hid hD) | (have D3 := Go.Lib.hid hD)); clear hD; replace P := Go.Lib.hid (row_next hb P.out); replace HP := Go.Lib.hid (HP.out.next hb); replace hB := Go.Lib.hid (below_next hB.out hb); replace E := Go.Lib.hid (E.out.next hb); clear hb)
      | (go_at_call 33; (refine (HS.out _ _ D1.out).mono ?_); rintro o w1 ⟨rfl, hb⟩; (try (replace D1 := Go.Lib.hid (row_next hb D1.out))); (try (replace D2 := Go.Lib.hid (row_next hb D2.out))); (try (replace D3 := Go.Lib.hid (row_next hb D3.out))); (try (replace U := Go.Lib.hid (row_next hb U.out))); (try (replace V := Go.Lib.hid (row_next hb V.out))); replace P := Go.Lib.hid (row_next hb P.out); replace HP := Go.Lib.hid (HP.out.next hb); replace hB := Go.Lib.hid (below_next hB.out hb); replace E := Go.Lib.hid (E.out.next hb); clear hb; clear D1)
      | (go_at_call 35; (refine (HI.out _ _ E.out D2.out).mono ?_); rintro o w1 ⟨rfl, hb⟩; (try (replace D1 := Go.Lib.hid (row_next hb D1.out))); (try (replace D2 := Go.Lib.hid (row_next hb D2.out))); (try (replace D3 := Go.Lib.hid (row_next hb D3.out))); (try (replace U := Go.Lib.hid (row_next hb U.out))); (try (replace V := Go.Lib.hid (row_next hb V.out))); replace P := Go.Lib.hid (row_next hb P.out); replace HP := Go.Lib.hid (HP.out.next hb); replace hB := Go.Lib.hid (below_next hB.out hb); replace E := Go.Lib.hid (E.out.next hb); clear hb)
      | (go_at_call 36; (refine (HQ.out _ _ _ D2.out D3.out).mono ?_); rintro o w1 ⟨rfl, hb⟩; (try (replace D1 := Go.Lib.hid (row_next hb D1.out))); (try (replace D2 := Go.Lib.hid (row_next hb D2.out))); (try (replace D3 := Go.Lib.hid (row_next hb D3.out))); (try (replace U := Go.Lib.hid (row_next hb U.out))); (try (replace V := Go.Lib.hid (row_next hb V.out))); replace P := Go.Lib.hid (row_next hb P.out); replace HP := Go.Lib.hid (HP.out.next hb); replace hB := Go.Lib.hid (below_next hB.out hb); replace E := Go.Lib.hid (E.out.next hb); clear hb))
    go_ret
    exact ⟨rfl, hB.out⟩
  · have HZ' := Go.Lib.hid fun w => by have h := HZ.out w; rw [if_neg hn] at h; exact h
    clear HZ hS hI
    go_enter Tryd.func7, Tryd.ntmps7
    go_wp2_with (first
      | go_skip
      | (go_at_call 32; (refine (HZ'.out _).mono ?_); rintro o w1 ⟨rfl, hb⟩; (try (replace D1 := Go.Lib.hid (row_next hb D1.out))); (try (replace D2 := Go.Lib.hid (row_next hb D2.out))); (try (replace D3 := Go.Lib.hid (row_next hb D3.out))); (try (replace U := Go.Lib.hid (row_next hb U.out))); (try (replace V := Go.Lib.hid (row_next hb V.out))); replace P := Go.Lib.hid (row_next hb P.out); replace HP := Go.Lib.hid (HP.out.next hb); replace hB := Go.Lib.hid (below_next hB.out hb); replace E := Go.Lib.hid (E.out.next hb); clear hb))
    go_ret
    exact ⟨rfl, hB.out⟩
set_option maxRecDepth 100000 in
set_option maxHeartbeats 4000000 in
theorem ckd_walk (p : Pic) (ao : Option Addr) (n cap : Nat) (px py pn : Nat → Int) (q : Bool) (k : Int) (e : ErrE) (w : World) (hE : Errs e w) (hm : n ≤ 9223372036854775807) (hp : DrsC w ao n px py pn)
    (hS : n ≤ 1048576 → ∀ D w, w.heap[D]? = some (.cells (vrow (n * 3) (drf px py pn)) 66) → Calls Tryd.prog 37 #[.agg p.row, .slice (some ⟨D, 0, none⟩) n n] w fun o w' => o = .returned (.tuple #[.bool q, .int .i64 k]) ∧ Below w.heap.size w w')
    (hI : n ≤ 1048576 → ∀ D w, Errs e w → w.heap[D]? = some (.cells (vrow (n * 3) (drf px py pn)) 66) → Calls Tryd.prog 38 #[.agg p.row, .slice (some ⟨D, 0, none⟩) n n] w fun o w' => o = .returned (.tuple #[.bool q, .int .i64 k]) ∧ Below w.heap.size w w') :
    Calls Tryd.prog 8 #[.agg p.row, .slice ao n cap] w fun o w' => o = .returned (.bool true) ∧ Below w.heap.size w w' := by
  have HT := Go.Lib.hid fun w => toPicture_any p w
  have HZ := Go.Lib.hid fun w => szD_any ao n cap hm w
  have P : Hid ((w.alloc (.cells (vrow 66 p.at) 58)).heap[w.heap.size]? = some (.cells (vrow 66 p.at) 58)) := (heap_at _ _ _ (by simp))
  have hB : Hid (Below w.heap.size w (w.alloc (.cells (vrow 66 p.at) 58))) := Go.Lib.hid ((Below.refl w.heap.size w).alloc (by simp <;> omega) _)
  have E : Hid (Errs e (w.alloc (.cells (vrow 66 p.at) 58))) := Go.Lib.hid (hE.alloc _)
  have HP := Go.Lib.hid (hp.next ((Below.refl w.heap.size w).alloc (Nat.le_refl _) (.cells (vrow 66 p.at) 58)))
  clear hp
  by_cases hn : n ≤ 1048576
  · have hd : decide ((1048576 : Int) - (n : Int) < 0) = false := by simp; omega
    have HZ' := Go.Lib.hid fun w => by have h := HZ.out w; rw [if_pos hn] at h; exact h
    have HC := Go.Lib.hid fun w h => toDropS_any ao n cap px py pn w hn h
    have HS := Go.Lib.hid (hS hn)
    have HI := Go.Lib.hid (hI hn)
    have HQ := Go.Lib.hid fun D D' w h h' => eqDropS_any D D' n px py pn w hn h h'
    have F0 : Hid True := Go.Lib.hid trivial
    have F1 : Hid True := Go.Lib.hid trivial
    clear HZ hS hI
    go_enter Tryd.func8, Tryd.ntmps8
    go_wp2_with (first
      | go_skip
      | ((with_reducible refine wlAt 17 rfl ?_); refine wpList_loadall rfl 58 (.tmp 2) rfl _ rfl 66 p.at 58 _ Tryd.underlying58 rfl size_lpic P.out ?_)
      | ((with_reducible refine wlAt 27 rfl ?_); refine wpList_loadall rfl 58 (.tmp 2) rfl _ rfl 66 p.at 58 _ Tryd.underlying58 rfl size_lpic P.out ?_)
      | (go_at_call 32; (refine (HZ'.out _).mono ?_); rintro o w1 ⟨rfl, hb⟩; (try (replace D1 := Go.Lib.hid (row_next hb D1.out))); (try (replace D2 := Go.Lib.hid (row_next hb D2.out))); (try (replace D3 := Go.Lib.hid (row_next hb D3.out))); (try (replace U := Go.Lib.hid (row_next hb U.out))); (try (replace V := Go.Lib.hid (row_next hb V.out))); replace P := Go.Lib.hid (row_next hb P.out); replace HP := Go.Lib.hid (HP.out.next hb); replace hB := Go.Lib.hid (below_next hB.out hb); replace E := Go.Lib.hid (E.out.next hb); clear hb)
      | (go_at_call 28; (refine (HT.out _).mono ?_); rintro o w1 ⟨rfl, hb⟩; (try (replace D1 := Go.Lib.hid (row_next hb D1.out))); (try (replace D2 := Go.Lib.hid (row_next hb D2.out))); (try (replace D3 := Go.Lib.hid (row_next hb D3.out))); (try (replace U := Go.Lib.hid (row_next hb U.out))); (try (replace V := Go.Lib.hid (row_next hb V.out))); replace P := Go.Lib.hid (row_next hb P.out); replace HP := Go.Lib.hid (HP.out.next hb); replace hB := Go.Lib.hid (below_next hB.out hb); replace E := Go.Lib.hid (E.out.next hb); clear hb)
      | (go_at_call 34; (refine (HC.out _ HP.out).mono ?_); rintro o w1 ⟨Dn, rfl, hD, _, hb⟩; (try (replace D1 := Go.Lib.hid (row_next hb D1.out))); (try (replace D2 := Go.Lib.hid (row_next hb D2.out))); (try (replace D3 := Go.Lib.hid (row_next hb D3.out))); (try (replace U := Go.Lib.hid (row_next hb U.out))); (try (replace V := Go.Lib.hid (row_next hb V.out))); (first | (replace F0 := F0.out; clear F0; have D1 := Go.Lib.hid hD) | (replace F1 := F1.out; clear F1; have D2 := Go.Lib.hid hD) | (have D3 := Go.Lib.hid hD)); clear hD; replace P := Go.Lib.hid (row_next hb P.out); replace HP := Go.Lib.hid (HP.out.next hb); replace hB := Go.Lib.hid (below_next hB.out hb); replace E := Go.Lib.hid (E.out.next hb); clear hb)
      | (go_at_call 37; (refine (HS.out _ _ D1.out).mono ?_); rintro o w1 ⟨rfl, hb⟩; (try (replace D1 := Go.Lib.hid (row_next hb D1.out))); (try (replace D2 := Go.Lib.hid (row_next hb D2.out))); (try (replace D3 := Go.Lib.hid (row_next hb D3.out))); (try (replace U := Go.Lib.hid (row_next hb U.out))); (try (replace V := Go.Lib.hid (row_next hb V.out))); replace P := Go.Lib.hid (row_next hb P.out); replace HP := Go.Lib.hid (HP.out.next hb); replace hB := Go.Lib.hid (below_next hB.out hb); replace E := Go.Lib.hid (E.out.next hb); clear hb; clear D1)
      | (go_at_call 38; (refine (HI.out _ _ E.out D2.out).mono ?_); rintro o w1 ⟨rfl, hb⟩; (try (replace D1 := Go.Lib.hid (row_next hb D1.out))); (try (replace D2 := Go.Lib.hid (row_next hb D2.out))); (try (replace D3 := Go.Lib.hid (row_next hb D3.out))); (try (replace U := Go.Lib.hid (row_next hb U.out))); (try (replace V := Go.Lib.hid (row_next hb V.out))); replace P := Go.Lib.hid (row_next hb P.out); replace HP := Go.Lib.hid (HP.out.next hb); replace hB := Go.Lib.hid (below_next hB.out hb); replace E := Go.Lib.hid (E.out.next hb); clear hb)
      | (go_at_call 36; (refine (HQ.out _ _ _ D2.out D3.out).mono ?_); rintro o w1 ⟨rfl, hb⟩; (try (replace D1 := Go.Lib.hid (row_next hb D1.out))); (try (replace D2 := Go.Lib.hid (row_next hb D2.out))); (try (replace D3 := Go.Lib.hid (row_next hb D3.out))); (try (replace U := Go.Lib.hid (row_next hb U.out))); (try (replace V := Go.Lib.hid (row_next hb V.out))); replace P := Go.Lib.hid (row_next hb P.out); replace HP := Go.Lib.hid (HP.out.next hb); replace hB := Go.Lib.hid (below_next hB.out hb); replace E := Go.Lib.hid (E.out.next hb); clear hb))
    go_ret
    exact ⟨rfl, hB.out⟩
  · have HZ' := Go.Lib.hid fun w => by have h := HZ.out w; rw [if_neg hn] at h; exact h
    clear HZ hS hI
    go_enter Tryd.func8, Tryd.ntmps8
    go_wp2_with (first
      | go_skip
      | (go_at_call 32; (refine (HZ'.out _).mono ?_); rintro o w1 ⟨rfl, hb⟩; (try (replace D1 := Go.Lib.hid (row_next hb D1.out))); (try (replace D2 := Go.Lib.hid (row_next hb D2.out))); (try (replace D3 := Go.Lib.hid (row_next hb D3.out))); (try (replace U := Go.Lib.hid (row_next hb U.out))); (try (replace V := Go.Lib.hid (row_next hb V.out))); replace P := Go.Lib.hid (row_next hb P.out); replace HP := Go.Lib.hid (HP.out.next hb); replace hB := Go.Lib.hid (below_next hB.out hb); replace E := Go.Lib.hid (E.out.next hb); clear hb))
    go_ret
    exact ⟨rfl, hB.out⟩
theorem alld_law (p : Pic) (ao : Option Addr) (n cap : Nat) (px py pn : Nat → Int) (e : ErrE) (w : World) (hE : Errs e w) (hf : p.fit) (hm : n ≤ 9223372036854775807) (hpx : ∀ i, i < n → -128 ≤ px i ∧ px i ≤ 127) (hpy : ∀ i, i < n → -128 ≤ py i ∧ py i ≤ 127) (hpn : ∀ i, i < n → 0 ≤ pn i ∧ pn i ≤ 255) (hp : DrsC w ao n px py pn) : Calls Tryd.prog 7 #[.agg p.row, .slice ao n cap] w fun o w' => o = .returned (.bool true) ∧ Below w.heap.size w w' := by
  have bad : ∀ k, badD p px py pn n k → Calls Tryd.prog 7 #[.agg p.row, .slice ao n cap] w fun o w' => o = .returned (.bool true) ∧ Below w.heap.size w w' := fun k hk =>
    alld_walk p ao n cap px py pn Pic.zero k e w hE hm hp (fun _ D w hd => specAll_err p D n px py pn k w hf hpx hpy hpn hk hd) (fun _ D w hE hd => implAll_err p D n px py pn k hf hk e w hE hd)
  cases h1 : okP p
  · exact bad 1 (.inl ⟨h1, rfl⟩)
  · by_cases hn : n ≤ 100
    · cases hc : canA p px py pn n
      · exact bad 2 (.inr (.inr ⟨h1, hn, hc, rfl⟩))
      · obtain ⟨a, c, ea, ec, ha, hcc⟩ := okP_nat2 h1
        exact alld_walk p ao n cap px py pn (drpP p a c px py pn n) 0 e w hE hm hp (fun _ D w hd => specAll_ok p D n a c px py pn w hf hpx hpy hpn h1 hn hc ea ec ha.2 hcc.2 hd) (fun _ D w hE hd => implAll_ok p D n a c px py pn hf hpx hpy hpn h1 hn hc ea ec ha.2 hcc.2 e w hE hd)
    · exact bad 3 (.inr (.inl ⟨h1, by omega, rfl⟩))
theorem ckd_law (p : Pic) (ao : Option Addr) (n cap : Nat) (px py pn : Nat → Int) (e : ErrE) (w : World) (hE : Errs e w) (hf : p.fit) (hm : n ≤ 9223372036854775807) (hpx : ∀ i, i < n → -128 ≤ px i ∧ px i ≤ 127) (hpy : ∀ i, i < n → -128 ≤ py i ∧ py i ≤ 127) (hpn : ∀ i, i < n → 0 ≤ pn i ∧ pn i ≤ 255) (hp : DrsC w ao n px py pn) : Calls Tryd.prog 8 #[.agg p.row, .slice ao n cap] w fun o w' => o = .returned (.bool true) ∧ Below w.heap.size w w' := by
  have bad : ∀ k, badD p px py pn n k → Calls Tryd.prog 8 #[.agg p.row, .slice ao n cap] w fun o w' => o = .returned (.bool true) ∧ Below w.heap.size w w' := fun k hk =>
    ckd_walk p ao n cap px py pn false k e w hE hm hp (fun _ D w hd => by
      cases h1 : okP p
      · rcases hk with ⟨_, rfl⟩ | ⟨g, _⟩ | ⟨g, _⟩
        · exact specCk_bad p D n px py pn h1 w hf hpx hpy hpn hd
        · rw [h1] at g; cases g
        · rw [h1] at g; cases g
      · exact specCk_err p D n px py pn k h1 hk w hf hpx hpy hpn hd) (fun _ D w hE hd => implCk_err p D n px py pn k hf hk e w hE hd)
  cases h1 : okP p
  · exact bad 1 (.inl ⟨h1, rfl⟩)
  · by_cases hn : n ≤ 100
    · cases hc : canA p px py pn n
      · exact bad 2 (.inr (.inr ⟨h1, hn, hc, rfl⟩))
      · obtain ⟨a, c, ea, ec, ha, hcc⟩ := okP_nat2 h1
        obtain ⟨v, hv⟩ := det_pic (drpP (blankPic p.wide p.high) a c px py pn n) p
        exact ckd_walk p ao n cap px py pn v 0 e w hE hm hp (fun _ D w hd => specCk_ok p D n px py pn a c v h1 hn hc ea ec ha hcc hv w hf hpx hpy hpn hd) (fun _ D w hE hd => implCk_ok p D n a c px py pn v hf hpn h1 hn hc ea ec ha hcc hv e w hE hd)
    · exact bad 3 (.inr (.inl ⟨h1, by omega, rfl⟩))
end Go.Proofs.YtfgcpiipndhllaaDoor
