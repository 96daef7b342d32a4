import Derived.Test.YthienbbecbakjaaDoorVD
import Derived.Test.YthienbbecbakjaaDoorEqSheet
namespace Go.Proofs.YthienbbecbakjaaDoor
open Go.RowKit
set_option maxRecDepth 100000
set_option linter.unusedVariables false
set_option linter.unusedSimpArgs false
set_option maxRecDepth 100000 in
set_option maxHeartbeats 8000000 in
theorem ic_walk (s : Sh) (ao : Option Addr) (n cap : Nat) (px py : Nat → Int) (m : Nat) (qx qy : Nat → Int) (c : Int) (hmm : m ≤ 1048576) (e : ErrE) (w : World) (hE : Errs e w) (hm : n ≤ 9223372036854775807) (hp : PathC w ao n px py)
    (hS : n ≤ 1048576 → ∀ D w, w.heap[D]? = some (.cells (vrow (n * 2) (spf px py)) 61) → Calls Tryd.prog 18 #[.agg s.row, .slice (some ⟨D, 0, none⟩) n n] w fun o w' => ∃ v, o = .returned (.tuple #[v, .int .i64 c]) ∧ SlP w' v m qx qy w'.heap.size ∧ Below w.heap.size w w')
    (hI : n ≤ 1048576 → ∀ D w, Errs e w → w.heap[D]? = some (.cells (vrow (n * 2) (spf px py)) 61) → Calls Tryd.prog 19 #[.agg s.row, .slice (some ⟨D, 0, none⟩) n n] w fun o w' => ∃ v, o = .returned (.tuple #[v, .int .i64 c]) ∧ PO w' v m qx qy w.heap.size ∧ Below w.heap.size w w') :
    Calls Tryd.prog 5 #[.agg s.row, .slice ao n cap] w fun o w' => o = .returned (.bool true) ∧ Below w.heap.size w w' := by
  have HT := Go.Lib.hid fun w => toSheet_any s w
  have hB : Hid (Below w.heap.size w (w.alloc (.cells (vrow 266 s.at) 31))) := Go.Lib.hid ((Below.refl w.heap.size w).alloc (by simp <;> omega) _)
  have P : Hid ((w.alloc (.cells (vrow 266 s.at) 31)).heap[w.heap.size]? = some (.cells (vrow 266 s.at) 31)) := Go.Lib.hid (heap_at _ _ _ (by simp))
  have HP := Go.Lib.hid (hp.next hB.out)
  have HP0 := Go.Lib.hid hp
  have HZ := Go.Lib.hid fun w => szS_any ao n cap hm w
  clear hp
  by_cases hn : n ≤ 1048576
  · have hd : decide ((1048576 : Int) - (n : Int) < 0) = false := by simp; omega
    have HZ' := Go.Lib.hid fun w => by have h := HZ.out w; rw [if_pos hn] at h; exact h
    have HC := Go.Lib.hid fun w h => toSpotS_new ao n cap px py w hn h
    have HS := Go.Lib.hid (hS hn)
    have HI := Go.Lib.hid (hI hn)
    have HQ := Go.Lib.hid fun D D' w h h' => eqSpotS_any D D' n px py w hn h h'
    clear HZ hS hI
    have HE := Go.Lib.hid fun v1 v2 L1 L2 w h1 h2 => eqP_any v1 v2 m L1 L2 qx qy w hmm h1 h2
    have HM := Go.Lib.hid fun v B w hB h => markPO v m qx qy B w hmm hB h
    have HH := Go.Lib.hid fun v w h => heldMO v m w hmm h
    have HK := Go.Lib.hid fun D f w h => markS_any D n n (n * 2) f 1 w hn (Nat.le_refl _) ⟨by omega, by omega⟩ h
    have hq : decide ((1 : Int) + (m : Int) * 2 < 0) = false := by simp; omega
    have hq2 : decide ((1 : Int) + (n : Int) * 2 < 0) = false := by simp; omega
    have F0 : Hid True := Go.Lib.hid trivial
    have F1 : Hid True := Go.Lib.hid trivial
    have F2 : Hid True := Go.Lib.hid trivial
    have G0 : Hid True := Go.Lib.hid trivial
    have E0 : Hid True := Go.Lib.hid trivial
    have E1 : Hid True := Go.Lib.hid trivial
    have E2 : Hid True := Go.Lib.hid trivial
    have M0 : Hid True := Go.Lib.hid trivial
    go_enter Tryd.func5, Tryd.ntmps5
    go_wp2_with (first
      | go_skip
      | ((with_reducible refine wlAt 22 rfl ?_); refine wpList_loadall rfl 31 (.tmp 2) rfl _ rfl 266 s.at 31 _ Tryd.underlying31 rfl size_lsheet P.out ?_)
      | ((with_reducible refine wlAt 32 rfl ?_); refine wpList_loadall rfl 31 (.tmp 2) rfl _ rfl 266 s.at 31 _ Tryd.underlying31 rfl size_lsheet P.out ?_)
      | ((with_reducible refine wlAt 80 rfl ?_); refine wpList_loadall rfl 31 (.tmp 2) rfl _ rfl 266 s.at 31 _ Tryd.underlying31 rfl size_lsheet P.out ?_)
      | (go_at_call 8; ((with_reducible refine (HZ'.out _).mono ?_)); rintro e w1 ⟨rfl, hb⟩; (try (replace HX := Go.Lib.hid (Nat.le_trans HX.out hb.size))); (try (replace R1 := Go.Lib.hid (row_next hb R1.out))); (try (replace R2 := Go.Lib.hid (row_next hb R2.out))); (try (replace R3 := Go.Lib.hid (row_next hb R3.out))); (try (replace R4 := Go.Lib.hid (row_next hb R4.out))); (try (replace S5 := Go.Lib.hid (S5.out.next hb))); (try (replace P7 := Go.Lib.hid (P7.out.next hb))); (try (replace M7 := Go.Lib.hid (M7.out.next hb))); (try (replace P11 := Go.Lib.hid (P11.out.next hb))); replace P := Go.Lib.hid (row_next hb P.out); replace HP := Go.Lib.hid (HP.out.next hb); replace hB := Go.Lib.hid (below_next hB.out hb); clear hb)
      | (go_at_call 10; ((with_reducible refine (HT.out _).mono ?_)); rintro e w1 ⟨rfl, hb⟩; (try (replace HX := Go.Lib.hid (Nat.le_trans HX.out hb.size))); (try (replace R1 := Go.Lib.hid (row_next hb R1.out))); (try (replace R2 := Go.Lib.hid (row_next hb R2.out))); (try (replace R3 := Go.Lib.hid (row_next hb R3.out))); (try (replace R4 := Go.Lib.hid (row_next hb R4.out))); (try (replace S5 := Go.Lib.hid (S5.out.next hb))); (try (replace P7 := Go.Lib.hid (P7.out.next hb))); (try (replace M7 := Go.Lib.hid (M7.out.next hb))); (try (replace P11 := Go.Lib.hid (P11.out.next hb))); replace P := Go.Lib.hid (row_next hb P.out); replace HP := Go.Lib.hid (HP.out.next hb); replace hB := Go.Lib.hid (below_next hB.out hb); clear hb)
      | (go_at_call 11; replace F0 := F0.out; clear F0; (refine (HC.out _ HP.out).mono ?_); rintro e w1 ⟨rfl, hD, hb⟩; (try (replace HX := Go.Lib.hid (Nat.le_trans HX.out hb.size))); (try (replace R1 := Go.Lib.hid (row_next hb R1.out))); (try (replace R2 := Go.Lib.hid (row_next hb R2.out))); (try (replace R3 := Go.Lib.hid (row_next hb R3.out))); (try (replace R4 := Go.Lib.hid (row_next hb R4.out))); (try (replace S5 := Go.Lib.hid (S5.out.next hb))); (try (replace P7 := Go.Lib.hid (P7.out.next hb))); (try (replace M7 := Go.Lib.hid (M7.out.next hb))); (try (replace P11 := Go.Lib.hid (P11.out.next hb))); replace P := Go.Lib.hid (row_next hb P.out); replace HP := Go.Lib.hid (HP.out.next hb); replace hB := Go.Lib.hid (below_next hB.out hb); clear hb; have R1 := Go.Lib.hid hD; clear hD)
      | (go_at_call 11; replace F1 := F1.out; clear F1; (refine (HC.out _ HP.out).mono ?_); rintro e w2 ⟨rfl, hD, hb⟩; (try (replace HX := Go.Lib.hid (Nat.le_trans HX.out hb.size))); (try (replace R1 := Go.Lib.hid (row_next hb R1.out))); (try (replace R2 := Go.Lib.hid (row_next hb R2.out))); (try (replace R3 := Go.Lib.hid (row_next hb R3.out))); (try (replace R4 := Go.Lib.hid (row_next hb R4.out))); (try (replace S5 := Go.Lib.hid (S5.out.next hb))); (try (replace P7 := Go.Lib.hid (P7.out.next hb))); (try (replace M7 := Go.Lib.hid (M7.out.next hb))); (try (replace P11 := Go.Lib.hid (P11.out.next hb))); replace P := Go.Lib.hid (row_next hb P.out); replace HP := Go.Lib.hid (HP.out.next hb); replace hB := Go.Lib.hid (below_next hB.out hb); clear hb; have R2 := Go.Lib.hid hD; clear hD; have hwb := hb3; generalize w3.heap.size = b2 at R2 S5 hwb ⊢)
      | (go_at_call 11; replace F2 := F2.out; clear F2; (refine (HC.out _ HP.out).mono ?_); rintro e w4 ⟨rfl, hD, hb⟩; (try (replace HX := Go.Lib.hid (Nat.le_trans HX.out hb.size))); (try (replace R1 := Go.Lib.hid (row_next hb R1.out))); (try (replace R2 := Go.Lib.hid (row_next hb R2.out))); (try (replace R3 := Go.Lib.hid (row_next hb R3.out))); (try (replace R4 := Go.Lib.hid (row_next hb R4.out))); (try (replace S5 := Go.Lib.hid (S5.out.next hb))); (try (replace P7 := Go.Lib.hid (P7.out.next hb))); (try (replace M7 := Go.Lib.hid (M7.out.next hb))); (try (replace P11 := Go.Lib.hid (P11.out.next hb))); replace P := Go.Lib.hid (row_next hb P.out); replace HP := Go.Lib.hid (HP.out.next hb); replace hB := Go.Lib.hid (below_next hB.out hb); clear hb; have R3 := Go.Lib.hid hD; clear hD)
      | (go_at_call 11; (refine (HC.out _ HP.out).mono ?_); rintro e w5 ⟨rfl, hD, hb⟩; (try (replace HX := Go.Lib.hid (Nat.le_trans HX.out hb.size))); (try (replace R1 := Go.Lib.hid (row_next hb R1.out))); (try (replace R2 := Go.Lib.hid (row_next hb R2.out))); (try (replace R3 := Go.Lib.hid (row_next hb R3.out))); (try (replace R4 := Go.Lib.hid (row_next hb R4.out))); (try (replace S5 := Go.Lib.hid (S5.out.next hb))); (try (replace P7 := Go.Lib.hid (P7.out.next hb))); (try (replace M7 := Go.Lib.hid (M7.out.next hb))); (try (replace P11 := Go.Lib.hid (P11.out.next hb))); replace P := Go.Lib.hid (row_next hb P.out); replace HP := Go.Lib.hid (HP.out.next hb); replace hB := Go.Lib.hid (below_next hB.out hb); clear hb; have R4 := Go.Lib.hid hD; clear hD)
      | (go_at_call 18; (refine (HS.out _ _ R1.out).mono ?_); rintro e w3 ⟨v5, rfl, hS5, hb⟩; clear R1; (try (replace HX := Go.Lib.hid (Nat.le_trans HX.out hb.size))); (try (replace R1 := Go.Lib.hid (row_next hb R1.out))); (try (replace R2 := Go.Lib.hid (row_next hb R2.out))); (try (replace R3 := Go.Lib.hid (row_next hb R3.out))); (try (replace R4 := Go.Lib.hid (row_next hb R4.out))); (try (replace S5 := Go.Lib.hid (S5.out.next hb))); (try (replace P7 := Go.Lib.hid (P7.out.next hb))); (try (replace M7 := Go.Lib.hid (M7.out.next hb))); (try (replace P11 := Go.Lib.hid (P11.out.next hb))); replace P := Go.Lib.hid (row_next hb P.out); replace HP := Go.Lib.hid (HP.out.next hb); replace hB := Go.Lib.hid (below_next hB.out hb); clear hb; have S5 := Go.Lib.hid hS5; clear hS5; have hb3 := row_lt P.out)
      | (go_at_call 19; replace G0 := G0.out; clear G0; have hPB := row_lt R2.out; (refine (HI.out _ _ (hE.next hB.out) R2.out).mono ?_); rintro e w7 ⟨v7, rfl, hP7, hb⟩; have HX := Go.Lib.hid hb.size; (try (replace R1 := Go.Lib.hid (row_next hb R1.out))); (try (replace R2 := Go.Lib.hid (row_next hb R2.out))); (try (replace R3 := Go.Lib.hid (row_next hb R3.out))); (try (replace R4 := Go.Lib.hid (row_next hb R4.out))); (try (replace S5 := Go.Lib.hid (S5.out.next hb))); (try (replace P7 := Go.Lib.hid (P7.out.next hb))); (try (replace M7 := Go.Lib.hid (M7.out.next hb))); (try (replace P11 := Go.Lib.hid (P11.out.next hb))); replace P := Go.Lib.hid (row_next hb P.out); replace HP := Go.Lib.hid (HP.out.next hb); replace hB := Go.Lib.hid (below_next hB.out hb); clear hb; have P7 := Go.Lib.hid hP7; clear hP7; first | generalize w6.heap.size = B7 at P7 HX hPB ⊢ | generalize w1.heap.size = B7 at P7 HX hPB ⊢)
      | (go_at_call 19; (refine (HI.out _ _ (hE.next hB.out) R4.out).mono ?_); rintro e w8 ⟨v11, rfl, hP11, hb⟩; (try (replace HX := Go.Lib.hid (Nat.le_trans HX.out hb.size))); (try (replace R1 := Go.Lib.hid (row_next hb R1.out))); (try (replace R2 := Go.Lib.hid (row_next hb R2.out))); (try (replace R3 := Go.Lib.hid (row_next hb R3.out))); (try (replace R4 := Go.Lib.hid (row_next hb R4.out))); (try (replace S5 := Go.Lib.hid (S5.out.next hb))); (try (replace P7 := Go.Lib.hid (P7.out.next hb))); (try (replace M7 := Go.Lib.hid (M7.out.next hb))); (try (replace P11 := Go.Lib.hid (P11.out.next hb))); replace P := Go.Lib.hid (row_next hb P.out); replace HP := Go.Lib.hid (HP.out.next hb); replace hB := Go.Lib.hid (below_next hB.out hb); clear hb; have P11 := Go.Lib.hid hP11; clear hP11)
      | (go_at_call 13; replace E0 := E0.out; clear E0; (refine (HE.out _ _ _ _ _ P7.out.slp S5.out).mono ?_); rintro e w9 ⟨rfl, hb⟩; (try (replace HX := Go.Lib.hid (Nat.le_trans HX.out hb.size))); (try (replace R1 := Go.Lib.hid (row_next hb R1.out))); (try (replace R2 := Go.Lib.hid (row_next hb R2.out))); (try (replace R3 := Go.Lib.hid (row_next hb R3.out))); (try (replace R4 := Go.Lib.hid (row_next hb R4.out))); (try (replace S5 := Go.Lib.hid (S5.out.next hb))); (try (replace P7 := Go.Lib.hid (P7.out.next hb))); (try (replace M7 := Go.Lib.hid (M7.out.next hb))); (try (replace P11 := Go.Lib.hid (P11.out.next hb))); replace P := Go.Lib.hid (row_next hb P.out); replace HP := Go.Lib.hid (HP.out.next hb); replace hB := Go.Lib.hid (below_next hB.out hb); clear hb)
      | (go_at_call 13; replace E1 := E1.out; clear E1; (refine (HQ.out _ _ _ R2.out R3.out).mono ?_); rintro e w9 ⟨rfl, hb⟩; clear R3; (try (replace HX := Go.Lib.hid (Nat.le_trans HX.out hb.size))); (try (replace R1 := Go.Lib.hid (row_next hb R1.out))); (try (replace R2 := Go.Lib.hid (row_next hb R2.out))); (try (replace R3 := Go.Lib.hid (row_next hb R3.out))); (try (replace R4 := Go.Lib.hid (row_next hb R4.out))); (try (replace S5 := Go.Lib.hid (S5.out.next hb))); (try (replace P7 := Go.Lib.hid (P7.out.next hb))); (try (replace M7 := Go.Lib.hid (M7.out.next hb))); (try (replace P11 := Go.Lib.hid (P11.out.next hb))); replace P := Go.Lib.hid (row_next hb P.out); replace HP := Go.Lib.hid (HP.out.next hb); replace hB := Go.Lib.hid (below_next hB.out hb); clear hb)
      | (go_at_call 13; replace E2 := E2.out; clear E2; (refine (HE.out _ _ _ _ _ P7.out.slp S5.out).mono ?_); rintro e w9 ⟨rfl, hb⟩; (try (replace HX := Go.Lib.hid (Nat.le_trans HX.out hb.size))); (try (replace R1 := Go.Lib.hid (row_next hb R1.out))); (try (replace R2 := Go.Lib.hid (row_next hb R2.out))); (try (replace R3 := Go.Lib.hid (row_next hb R3.out))); (try (replace R4 := Go.Lib.hid (row_next hb R4.out))); (try (replace S5 := Go.Lib.hid (S5.out.next hb))); (try (replace P7 := Go.Lib.hid (P7.out.next hb))); (try (replace M7 := Go.Lib.hid (M7.out.next hb))); (try (replace P11 := Go.Lib.hid (P11.out.next hb))); replace P := Go.Lib.hid (row_next hb P.out); replace HP := Go.Lib.hid (HP.out.next hb); replace hB := Go.Lib.hid (below_next hB.out hb); clear hb)
      | (go_at_call 13; (refine (HE.out _ _ _ _ _ P11.out.slp S5.out).mono ?_); rintro e w9 ⟨rfl, hb⟩; (try (replace HX := Go.Lib.hid (Nat.le_trans HX.out hb.size))); (try (replace R1 := Go.Lib.hid (row_next hb R1.out))); (try (replace R2 := Go.Lib.hid (row_next hb R2.out))); (try (replace R3 := Go.Lib.hid (row_next hb R3.out))); (try (replace R4 := Go.Lib.hid (row_next hb R4.out))); (try (replace S5 := Go.Lib.hid (S5.out.next hb))); (try (replace P7 := Go.Lib.hid (P7.out.next hb))); (try (replace M7 := Go.Lib.hid (M7.out.next hb))); (try (replace P11 := Go.Lib.hid (P11.out.next hb))); replace P := Go.Lib.hid (row_next hb P.out); replace HP := Go.Lib.hid (HP.out.next hb); replace hB := Go.Lib.hid (below_next hB.out hb); clear hb)
      | (go_at_call 14; replace M0 := M0.out; clear M0; (refine (HK.out _ _ _ R2.out).mono ?_); rintro e w9 ⟨rfl, rfl⟩; replace S5 := Go.Lib.hid (S5.out.set (Nat.le_refl b2) (vrow (n * 2) (mkC (spf px py) 1 (n * 2)))); replace P7 := Go.Lib.hid (P7.out.set (show b2 < B7 by omega) (vrow (n * 2) (mkC (spf px py) 1 (n * 2)))); replace P := Go.Lib.hid (row_set' (g := b2) (show w.heap.size ≠ b2 by omega) P.out (vrow (n * 2) (mkC (spf px py) 1 (n * 2)))); replace HP := Go.Lib.hid (HP0.out.next (Below_setRow hB.out (show w.heap.size ≤ b2 by omega) (vrow (n * 2) (mkC (spf px py) 1 (n * 2))))); replace hB := Go.Lib.hid (Below_setRow hB.out (show w.heap.size ≤ b2 by omega) (vrow (n * 2) (mkC (spf px py) 1 (n * 2)))); replace HX := Go.Lib.hid (show B7 ≤ (World.setRow _ b2 (vrow (n * 2) (mkC (spf px py) 1 (n * 2)))).heap.size from Nat.le_trans HX.out (Below_setRow (Below.refl 0 _) (Nat.zero_le b2) (vrow (n * 2) (mkC (spf px py) 1 (n * 2)))).size); clear R2; generalize World.setRow _ _ _ = w10 at S5 P7 P HP hB HX ⊢)
      | (go_at_call 14; (refine (HM.out _ _ _ HX.out P7.out).mono ?_); rintro e w11 ⟨rfl, hM, hb⟩; replace S5 := Go.Lib.hid (S5.out.below (hb.mono (show b2 ≤ B7 by omega))); replace P := Go.Lib.hid (row_below hb (show w.heap.size < B7 by omega) P.out); replace HP := Go.Lib.hid (HP0.out.next (hB.out.trans (hb.mono (show w.heap.size ≤ B7 by omega)))); replace hB := Go.Lib.hid (hB.out.trans (hb.mono (show w.heap.size ≤ B7 by omega))); replace HX := Go.Lib.hid (Nat.le_trans HX.out hb.size); clear P7 hb; have M7 := Go.Lib.hid hM; clear hM)
      | (go_at_call 15; (refine (HH.out _ _ M7.out).mono ?_); rintro e w9 ⟨rfl, hb⟩; (try (replace HX := Go.Lib.hid (Nat.le_trans HX.out hb.size))); (try (replace R1 := Go.Lib.hid (row_next hb R1.out))); (try (replace R2 := Go.Lib.hid (row_next hb R2.out))); (try (replace R3 := Go.Lib.hid (row_next hb R3.out))); (try (replace R4 := Go.Lib.hid (row_next hb R4.out))); (try (replace S5 := Go.Lib.hid (S5.out.next hb))); (try (replace P7 := Go.Lib.hid (P7.out.next hb))); (try (replace M7 := Go.Lib.hid (M7.out.next hb))); (try (replace P11 := Go.Lib.hid (P11.out.next hb))); replace P := Go.Lib.hid (row_next hb P.out); replace HP := Go.Lib.hid (HP.out.next hb); replace hB := Go.Lib.hid (below_next hB.out hb); clear hb))
    go_ret
    exact ⟨rfl, hB.out⟩
  · have hd : decide ((-1 : Int) < 0) = true := by simp
    have HZ' := Go.Lib.hid fun w => by have h := HZ.out w; rw [if_neg hn] at h; exact h
    clear HZ hS hI
    go_enter Tryd.func5, Tryd.ntmps5
    go_wp2_with (first
      | go_skip
      | (go_at_call 8; ((with_reducible refine (HZ'.out _).mono ?_)); rintro e w1 ⟨rfl, hb⟩; replace hB := Go.Lib.hid (below_next hB.out hb); clear hb))
    go_ret
    exact ⟨rfl, hB.out⟩
/-- the inner cells of a set are those of its cells that are not waxed -/
theorem inn_in {s : Sh} {a c : Nat} (hok : okI s = true) (ea : s.wide = a) (ec : s.high = c) (ha : a ≤ 8) (hc : c ≤ 8) (g : Nat → Bool) : agr (plA (dryL s (cellsL a c)) (innP s (plA (dryL s (cellsL a c)) fun p => g (pix p)))) (plA (dryL s (cellsL a c)) (innP s g)) := fun i hi => by
  have hv : ∀ p : Sp8, freeB s p.1.1 p.1.2 = true → plA (dryL s (cellsL a c)) (fun p => g (pix p)) (pix p) = g (pix p) := fun p hp => by
    rw [plA_agr ha hc _ _ (pix_lt p)]
    refine agr_tt ?_
    rw [plF_mem]
    constructor
    · rintro ⟨q, _, e, h⟩
      rwa [e] at h
    · intro h
      exact ⟨p, (frL_mem ea ec ha hc p).2 hp, rfl, h⟩
  rw [plA_agr ha hc _ i hi, plA_agr ha hc _ i hi]
  refine agr_tt ?_
  rw [plF_mem, plF_mem]
  refine exists_congr fun p => and_congr_right fun hp => and_congr_right fun _ => ?_
  have hpf := (frL_mem ea ec ha hc p).1 hp
  unfold innP
  rw [hv p hpf]
  have hany : ((nbs s p.1.1 p.1.2 4).any fun q => !plA (dryL s (cellsL a c)) (fun p => g (pix p)) (pix q)) = (nbs s p.1.1 p.1.2 4).any fun q => !g (pix q) := by
    refine Bool.eq_iff_iff.2 ?_
    rw [List.any_eq_true, List.any_eq_true]
    refine exists_congr fun q => and_congr_right fun hq => ?_
    rw [hv q ((nbs_iff hok q 4).1 hq).1]
  rw [hany]
theorem ic_law (s : Sh) (ao : Option Addr) (n cap : Nat) (px py : Nat → Int) (e : ErrE) (w : World) (hE : Errs e w) (hf : s.fit) (hm : n ≤ 9223372036854775807) (hpx : ∀ i, i < n → -128 ≤ px i ∧ px i ≤ 127) (hpy : ∀ i, i < n → -128 ≤ py i ∧ py i ≤ 127) (hp : PathC w ao n px py) :
    Calls Tryd.prog 5 #[.agg s.row, .slice ao n cap] w fun o w' => o = .returned (.bool true) ∧ Below w.heap.size w w' := by
  cases ho : okI s
  · exact ic_walk s ao n cap px py 0 (fun _ => 0) (fun _ => 0) 1 (by omega) e w hE hm hp (fun hn D w hD => (linc_bad s D n 1 px py w (.inl rfl) hD (fun b w h1 h2 => asked_bad s b D n px py w hn hf h1 h2 ho)).mono (fun o w' ⟨v, g1, g2, g3⟩ => ⟨v, g1, SlP.none g2, g3⟩)) (fun hn D w hE hD => (inn_err s D n 1 1 px py e w hE hD (fun w hE hD => ckSpots_bad s D n px py e w hn hE hD ho hf) (fun w hE => codeOf_1 e w hE)).mono (fun o w' ⟨g1, g2⟩ => ⟨_, g1, PO.none, g2⟩))
  · cases hin : insL s px py n
    · exact ic_walk s ao n cap px py 0 (fun _ => 0) (fun _ => 0) 2 (by omega) e w hE hm hp (fun hn D w hD => (linc_bad s D n 2 px py w (.inr rfl) hD (fun b w h1 h2 => asked_any s b D n px py w hn hf h1 h2 hpx hpy ho false hin)).mono (fun o w' ⟨v, g1, g2, g3⟩ => ⟨v, g1, SlP.none g2, g3⟩)) (fun hn D w hE hD => (inn_err s D n 2 2 px py e w hE hD (fun w hE hD => ckSpots_any s D n px py e w hn hE hD ho hf false hin) (fun w hE => codeOf_2 e w hE)).mono (fun o w' ⟨g1, g2⟩ => ⟨_, g1, PO.none, g2⟩))
    · obtain ⟨a, c, ea, ec, ha, hc⟩ := fitW' s ho
      have hst := set_eq ho ea ec ha.2 hc.2 hin
      have hfr := inFree_agr hst (plA_free ea ec ha.2 hc.2 _)
      have hi1 := inn_eq ea ec ha.2 hc.2 hfr (fun _ _ => rfl)
      have hi2 : agr (minn s (mkS s px py n) (allL (mkS s px py n))) (plA (dryL s (cellsL a c)) (innP s (mkA px py n))) := fun i hi => by
        rw [hi1 i hi, innP_agr hst]
        exact inn_in ho ea ec ha.2 hc.2 (mkA px py n) i hi
      have hl := allL_cut ea ec ha.2 hc.2 (inFree_agr hi1 (plA_free ea ec ha.2 hc.2 _)) hi2
      have hlen : (fl (fun x y => plA (dryL s (cellsL a c)) (innP s (mkA px py n)) (8 * y + x)) (cellsL a c)).length ≤ 1048576 := by
        have h9 := fl_len (fun x y => plA (dryL s (cellsL a c)) (innP s (mkA px py n)) (8 * y + x)) (cellsL a c)
        have h8 : (cellsL a c).length = a * c := cellsL_length a c
        have h7 := Nat.mul_le_mul ha.2 hc.2
        omega
      refine ic_walk s ao n cap px py _ (lx (fl (fun x y => plA (dryL s (cellsL a c)) (innP s (mkA px py n)) (8 * y + x)) (cellsL a c))) (ly (fl (fun x y => plA (dryL s (cellsL a c)) (innP s (mkA px py n)) (8 * y + x)) (cellsL a c))) 0 hlen e w hE hm hp (fun hn D w hD => ?_) (fun hn D w hE hD => (inn_ok s D n px py a c e w hE hn ea ec ha.2 hc.2 hf ho hin hD).mono fun o w' ⟨v, g1, g2, g3⟩ => ⟨v, g1, own_po g2, g3⟩)
      have h := linc_ok s D n px py _ w hn hf ho hin rfl hD (fun b w h1 h2 => asked_any s b D n px py w hn hf h1 h2 hpx hpy ho true hin)
      rw [hl] at h
      exact h.mono fun o w' ⟨v, g1, g2, g3⟩ => ⟨v, g1, (own_po g2.own).slp, g3⟩
end Go.Proofs.YthienbbecbakjaaDoor
