import Derived.Deep.RegionHeld3
import Derived.Test.YtfhfiaphdgfmnaaDoorTkJ
import Derived.Test.YtfhfiaphdgfmnaaDoorMkR
import Derived.Test.YtfhfiaphdgfmnaaDoorStZ
import Derived.Test.YtfhfiaphdgfmnaaDoorOpenSk
namespace Go.Proofs.YtfhfiaphdgfmnaaDoor
open Go.RowKit
set_option maxRecDepth 100000
set_option linter.unusedVariables false
set_option linter.unusedSimpArgs false
set_option maxRecDepth 100000 in
set_option maxHeartbeats 8000000 in
theorem tk_walk (ao : Option Addr) (n cap : Nat) (ss : Nat → Sh) (m : Nat) (tt : Nat → Sh) (c : Int) (hmm : m ≤ 1048576) (e : ErrE) (w : World) (hE : Errs e w) (hm : n ≤ 9223372036854775807) (hp : StC w ao n ss)
    (hS : n ≤ 1048576 → ∀ D w, w.heap[D]? = some (.cells (vrow (n * 266) (stF ss)) 39) → Calls Tryd.prog 22 #[.slice (some ⟨D, 0, none⟩) n n] w fun o w' => ∃ v, o = .returned (.tuple #[v, .int .i64 c]) ∧ SlK w' v m tt w'.heap.size ∧ Below w.heap.size w w')
    (hI : n ≤ 1048576 → ∀ D w, Errs e w → w.heap[D]? = some (.cells (vrow (n * 266) (stF ss)) 39) → Calls Tryd.prog 23 #[.slice (some ⟨D, 0, none⟩) n n] w fun o w' => ∃ v, o = .returned (.tuple #[v, .int .i64 c]) ∧ PK w' v m tt w.heap.size ∧ Below w.heap.size w w') :
    Calls Tryd.prog 5 #[.slice ao n cap] w fun o w' => o = .returned (.bool true) ∧ Below w.heap.size w w' := by
  have hB : Hid (Below w.heap.size w w) := Go.Lib.hid (Below.refl _ _)
  have HP := Go.Lib.hid hp
  have HP0 := Go.Lib.hid hp
  clear hp
  by_cases hn : n ≤ 1048576
  rotate_left
  · have HZ := Go.Lib.hid fun w => szS_no ao n cap 1048576 hm ⟨by omega, by omega⟩ (by omega) w
    have hneg : decide ((-1 : Int) < 0) = true := by simp
    clear hS hI
    go_enter Tryd.func5, Tryd.ntmps5
    go_wp2_with (first
      | go_skip
      | (go_at_call 11; (refine (HZ.out _).mono ?_); rintro e w1 ⟨rfl, hb⟩; (try (replace R1 := Go.Lib.hid (row_next hb R1.out))); (try (replace R2 := Go.Lib.hid (row_next hb R2.out))); (try (replace R3 := Go.Lib.hid (row_next hb R3.out))); (try (replace R4 := Go.Lib.hid (row_next hb R4.out))); replace HP := Go.Lib.hid (HP.out.next hb); replace hB := Go.Lib.hid (below_next hB.out hb); clear hb))
    go_ret
    exact ⟨rfl, hB.out⟩
  · have HZ := Go.Lib.hid fun w => szS_yes ao n cap 1048576 hm ⟨by omega, by omega⟩ (by omega) w
    have hd : decide ((1048576 : Int) - (n : Int) < 0) = false := by simp; omega
    have HC := Go.Lib.hid fun w h => toStack_new ao n cap ss w hn h
    have HS := Go.Lib.hid (hS hn)
    have HI := Go.Lib.hid (hI hn)
    have HQ := Go.Lib.hid fun v1 v2 L1 L2 w g1 g2 => eqK_any v1 v2 n L1 L2 ss w hn g1 g2
    clear hS hI
    have HE := Go.Lib.hid fun v1 v2 L1 L2 w h1 h2 => eqK_any v1 v2 m L1 L2 tt w hmm h1 h2
    have HM := Go.Lib.hid fun v B w hB h => markPK v m tt B w hmm hB h
    have HH := Go.Lib.hid fun v w h => heldMK v m w hmm h
    have HK := Go.Lib.hid fun D f w h => markK_any D n n f w hn h
    have hq1 : decide ((1 : Int) + 10 * (m : Int) < 0) = false := by simp; omega
    have hq2 : decide ((1 : Int) + 10 * (n : Int) < 0) = false := by simp; omega
    have F0 : Hid True := Go.Lib.hid trivial
    have F1 : Hid True := Go.Lib.hid trivial
    have F2 : Hid True := Go.Lib.hid trivial
    have G0 : Hid True := Go.Lib.hid trivial
    have E0 : Hid True := Go.Lib.hid trivial
    have E1 : Hid True := Go.Lib.hid trivial
    have M0 : Hid True := Go.Lib.hid trivial
    go_enter Tryd.func5, Tryd.ntmps5
    go_wp2_with (first
      | go_skip
      | (go_at_call 11; (refine (HZ.out _).mono ?_); rintro e w1 ⟨rfl, hb⟩; (try (replace HX := Go.Lib.hid (Nat.le_trans HX.out hb.size))); (try (replace R1 := Go.Lib.hid (row_next hb R1.out))); (try (replace R2 := Go.Lib.hid (row_next hb R2.out))); (try (replace R3 := Go.Lib.hid (row_next hb R3.out))); (try (replace R4 := Go.Lib.hid (row_next hb R4.out))); (try (replace S5 := Go.Lib.hid (S5.out.next hb))); (try (replace P7 := Go.Lib.hid (P7.out.next hb))); (try (replace M7 := Go.Lib.hid (M7.out.next hb))); (try (replace P11 := Go.Lib.hid (P11.out.next hb))); replace HP := Go.Lib.hid (HP.out.next hb); replace hB := Go.Lib.hid (below_next hB.out hb); clear hb)
      | (go_at_call 13; replace F0 := F0.out; clear F0; (refine (HC.out _ HP.out).mono ?_); rintro e w1 ⟨rfl, hD, hb⟩; (try (replace HX := Go.Lib.hid (Nat.le_trans HX.out hb.size))); (try (replace R1 := Go.Lib.hid (row_next hb R1.out))); (try (replace R2 := Go.Lib.hid (row_next hb R2.out))); (try (replace R3 := Go.Lib.hid (row_next hb R3.out))); (try (replace R4 := Go.Lib.hid (row_next hb R4.out))); (try (replace S5 := Go.Lib.hid (S5.out.next hb))); (try (replace P7 := Go.Lib.hid (P7.out.next hb))); (try (replace M7 := Go.Lib.hid (M7.out.next hb))); (try (replace P11 := Go.Lib.hid (P11.out.next hb))); replace HP := Go.Lib.hid (HP.out.next hb); replace hB := Go.Lib.hid (below_next hB.out hb); clear hb; have R1 := Go.Lib.hid hD; clear hD)
      | (go_at_call 13; replace F1 := F1.out; clear F1; (refine (HC.out _ HP.out).mono ?_); rintro e w2 ⟨rfl, hD, hb⟩; (try (replace HX := Go.Lib.hid (Nat.le_trans HX.out hb.size))); (try (replace R1 := Go.Lib.hid (row_next hb R1.out))); (try (replace R2 := Go.Lib.hid (row_next hb R2.out))); (try (replace R3 := Go.Lib.hid (row_next hb R3.out))); (try (replace R4 := Go.Lib.hid (row_next hb R4.out))); (try (replace S5 := Go.Lib.hid (S5.out.next hb))); (try (replace P7 := Go.Lib.hid (P7.out.next hb))); (try (replace M7 := Go.Lib.hid (M7.out.next hb))); (try (replace P11 := Go.Lib.hid (P11.out.next hb))); replace HP := Go.Lib.hid (HP.out.next hb); replace hB := Go.Lib.hid (below_next hB.out hb); clear hb; have R2 := Go.Lib.hid hD; clear hD; have hwb := hb3; clear hb3; generalize w3.heap.size = b2 at R2 S5 hwb ⊢)
      | (go_at_call 13; replace F2 := F2.out; clear F2; (refine (HC.out _ HP.out).mono ?_); rintro e w4 ⟨rfl, hD, hb⟩; (try (replace HX := Go.Lib.hid (Nat.le_trans HX.out hb.size))); (try (replace R1 := Go.Lib.hid (row_next hb R1.out))); (try (replace R2 := Go.Lib.hid (row_next hb R2.out))); (try (replace R3 := Go.Lib.hid (row_next hb R3.out))); (try (replace R4 := Go.Lib.hid (row_next hb R4.out))); (try (replace S5 := Go.Lib.hid (S5.out.next hb))); (try (replace P7 := Go.Lib.hid (P7.out.next hb))); (try (replace M7 := Go.Lib.hid (M7.out.next hb))); (try (replace P11 := Go.Lib.hid (P11.out.next hb))); replace HP := Go.Lib.hid (HP.out.next hb); replace hB := Go.Lib.hid (below_next hB.out hb); clear hb; have R3 := Go.Lib.hid hD; clear hD)
      | (go_at_call 13; (refine (HC.out _ HP.out).mono ?_); rintro e w5 ⟨rfl, hD, hb⟩; (try (replace HX := Go.Lib.hid (Nat.le_trans HX.out hb.size))); (try (replace R1 := Go.Lib.hid (row_next hb R1.out))); (try (replace R2 := Go.Lib.hid (row_next hb R2.out))); (try (replace R3 := Go.Lib.hid (row_next hb R3.out))); (try (replace R4 := Go.Lib.hid (row_next hb R4.out))); (try (replace S5 := Go.Lib.hid (S5.out.next hb))); (try (replace P7 := Go.Lib.hid (P7.out.next hb))); (try (replace M7 := Go.Lib.hid (M7.out.next hb))); (try (replace P11 := Go.Lib.hid (P11.out.next hb))); replace HP := Go.Lib.hid (HP.out.next hb); replace hB := Go.Lib.hid (below_next hB.out hb); clear hb; have R4 := Go.Lib.hid hD; clear hD)
      | (go_at_call 22; (refine (HS.out _ _ R1.out).mono ?_); rintro e w3 ⟨v5, rfl, hS5, hb⟩; clear R1; (try (replace HX := Go.Lib.hid (Nat.le_trans HX.out hb.size))); (try (replace R1 := Go.Lib.hid (row_next hb R1.out))); (try (replace R2 := Go.Lib.hid (row_next hb R2.out))); (try (replace R3 := Go.Lib.hid (row_next hb R3.out))); (try (replace R4 := Go.Lib.hid (row_next hb R4.out))); (try (replace S5 := Go.Lib.hid (S5.out.next hb))); (try (replace P7 := Go.Lib.hid (P7.out.next hb))); (try (replace M7 := Go.Lib.hid (M7.out.next hb))); (try (replace P11 := Go.Lib.hid (P11.out.next hb))); replace HP := Go.Lib.hid (HP.out.next hb); replace hB := Go.Lib.hid (below_next hB.out hb); clear hb; have S5 := Go.Lib.hid hS5; clear hS5; have hb3 := hB.out.size)
      | (go_at_call 23; replace G0 := G0.out; clear G0; have hPB := row_lt R2.out; (refine (HI.out _ _ (hE.next hB.out) R2.out).mono ?_); rintro e w7 ⟨v7, rfl, hP7, hb⟩; have HX := Go.Lib.hid hb.size; (try (replace R1 := Go.Lib.hid (row_next hb R1.out))); (try (replace R2 := Go.Lib.hid (row_next hb R2.out))); (try (replace R3 := Go.Lib.hid (row_next hb R3.out))); (try (replace R4 := Go.Lib.hid (row_next hb R4.out))); (try (replace S5 := Go.Lib.hid (S5.out.next hb))); (try (replace P7 := Go.Lib.hid (P7.out.next hb))); (try (replace M7 := Go.Lib.hid (M7.out.next hb))); (try (replace P11 := Go.Lib.hid (P11.out.next hb))); replace HP := Go.Lib.hid (HP.out.next hb); replace hB := Go.Lib.hid (below_next hB.out hb); clear hb; have P7 := Go.Lib.hid hP7; clear hP7; generalize w2.heap.size = B7 at P7 HX hPB ⊢)
      | (go_at_call 23; (refine (HI.out _ _ (hE.next hB.out) R4.out).mono ?_); rintro e w8 ⟨v11, rfl, hP11, hb⟩; (try (replace HX := Go.Lib.hid (Nat.le_trans HX.out hb.size))); (try (replace R1 := Go.Lib.hid (row_next hb R1.out))); (try (replace R2 := Go.Lib.hid (row_next hb R2.out))); (try (replace R3 := Go.Lib.hid (row_next hb R3.out))); (try (replace R4 := Go.Lib.hid (row_next hb R4.out))); (try (replace S5 := Go.Lib.hid (S5.out.next hb))); (try (replace P7 := Go.Lib.hid (P7.out.next hb))); (try (replace M7 := Go.Lib.hid (M7.out.next hb))); (try (replace P11 := Go.Lib.hid (P11.out.next hb))); replace HP := Go.Lib.hid (HP.out.next hb); replace hB := Go.Lib.hid (below_next hB.out hb); clear hb; have P11 := Go.Lib.hid hP11; clear hP11)
      | (go_at_call 16; replace E0 := E0.out; clear E0; (refine (HE.out _ _ _ _ _ P7.out.slp S5.out).mono ?_); rintro e w9 ⟨rfl, hb⟩; (try (replace HX := Go.Lib.hid (Nat.le_trans HX.out hb.size))); (try (replace R1 := Go.Lib.hid (row_next hb R1.out))); (try (replace R2 := Go.Lib.hid (row_next hb R2.out))); (try (replace R3 := Go.Lib.hid (row_next hb R3.out))); (try (replace R4 := Go.Lib.hid (row_next hb R4.out))); (try (replace S5 := Go.Lib.hid (S5.out.next hb))); (try (replace P7 := Go.Lib.hid (P7.out.next hb))); (try (replace M7 := Go.Lib.hid (M7.out.next hb))); (try (replace P11 := Go.Lib.hid (P11.out.next hb))); replace HP := Go.Lib.hid (HP.out.next hb); replace hB := Go.Lib.hid (below_next hB.out hb); clear hb)
      | (go_at_call 16; (refine (HQ.out _ _ _ _ _ (SlK.row R2.out) (SlK.row R3.out)).mono ?_); rintro e w9 ⟨rfl, hb⟩; clear R3; (try (replace HX := Go.Lib.hid (Nat.le_trans HX.out hb.size))); (try (replace R1 := Go.Lib.hid (row_next hb R1.out))); (try (replace R2 := Go.Lib.hid (row_next hb R2.out))); (try (replace R3 := Go.Lib.hid (row_next hb R3.out))); (try (replace R4 := Go.Lib.hid (row_next hb R4.out))); (try (replace S5 := Go.Lib.hid (S5.out.next hb))); (try (replace P7 := Go.Lib.hid (P7.out.next hb))); (try (replace M7 := Go.Lib.hid (M7.out.next hb))); (try (replace P11 := Go.Lib.hid (P11.out.next hb))); replace HP := Go.Lib.hid (HP.out.next hb); replace hB := Go.Lib.hid (below_next hB.out hb); clear hb)
      | (go_at_call 16; replace E1 := E1.out; clear E1; (refine (HE.out _ _ _ _ _ P7.out.slp S5.out).mono ?_); rintro e w9 ⟨rfl, hb⟩; (try (replace HX := Go.Lib.hid (Nat.le_trans HX.out hb.size))); (try (replace R1 := Go.Lib.hid (row_next hb R1.out))); (try (replace R2 := Go.Lib.hid (row_next hb R2.out))); (try (replace R3 := Go.Lib.hid (row_next hb R3.out))); (try (replace R4 := Go.Lib.hid (row_next hb R4.out))); (try (replace S5 := Go.Lib.hid (S5.out.next hb))); (try (replace P7 := Go.Lib.hid (P7.out.next hb))); (try (replace M7 := Go.Lib.hid (M7.out.next hb))); (try (replace P11 := Go.Lib.hid (P11.out.next hb))); replace HP := Go.Lib.hid (HP.out.next hb); replace hB := Go.Lib.hid (below_next hB.out hb); clear hb)
      | (go_at_call 16; (refine (HE.out _ _ _ _ _ P11.out.slp S5.out).mono ?_); rintro e w9 ⟨rfl, hb⟩; (try (replace HX := Go.Lib.hid (Nat.le_trans HX.out hb.size))); (try (replace R1 := Go.Lib.hid (row_next hb R1.out))); (try (replace R2 := Go.Lib.hid (row_next hb R2.out))); (try (replace R3 := Go.Lib.hid (row_next hb R3.out))); (try (replace R4 := Go.Lib.hid (row_next hb R4.out))); (try (replace S5 := Go.Lib.hid (S5.out.next hb))); (try (replace P7 := Go.Lib.hid (P7.out.next hb))); (try (replace M7 := Go.Lib.hid (M7.out.next hb))); (try (replace P11 := Go.Lib.hid (P11.out.next hb))); replace HP := Go.Lib.hid (HP.out.next hb); replace hB := Go.Lib.hid (below_next hB.out hb); clear hb)
      | (go_at_call 17; replace M0 := M0.out; clear M0; (refine (HK.out _ _ _ R2.out).mono ?_); rintro e w9 ⟨rfl, fm, rfl⟩; replace S5 := Go.Lib.hid (S5.out.set (Nat.le_refl b2) (vrow (n * 266) fm)); replace P7 := Go.Lib.hid (P7.out.set (show b2 < B7 by omega) (vrow (n * 266) fm)); replace HP := Go.Lib.hid (HP0.out.next (Below_setRow hB.out (show w.heap.size ≤ b2 by omega) (vrow (n * 266) fm))); replace hB := Go.Lib.hid (Below_setRow hB.out (show w.heap.size ≤ b2 by omega) (vrow (n * 266) fm)); replace HX := Go.Lib.hid (show B7 ≤ (World.setRow _ b2 (vrow (n * 266) fm)).heap.size from Nat.le_trans HX.out (Below_setRow (Below.refl 0 _) (Nat.zero_le b2) (vrow (n * 266) fm)).size); clear R2; generalize World.setRow _ _ _ = w10 at S5 P7 HP hB HX ⊢)
      | (go_at_call 17; (refine (HM.out _ _ _ HX.out P7.out).mono ?_); rintro e w11 ⟨rfl, hM, hb⟩; replace S5 := Go.Lib.hid (S5.out.below (hb.mono (show b2 ≤ B7 by omega))); replace HP := Go.Lib.hid (HP0.out.next (hB.out.trans (hb.mono (show w.heap.size ≤ B7 by omega)))); replace hB := Go.Lib.hid (hB.out.trans (hb.mono (show w.heap.size ≤ B7 by omega))); replace HX := Go.Lib.hid (Nat.le_trans HX.out hb.size); clear P7 hb; have M7 := Go.Lib.hid hM; clear hM)
      | (go_at_call 18; (refine (HH.out _ _ M7.out).mono ?_); rintro e w9 ⟨rfl, hb⟩; (try (replace HX := Go.Lib.hid (Nat.le_trans HX.out hb.size))); (try (replace R1 := Go.Lib.hid (row_next hb R1.out))); (try (replace R2 := Go.Lib.hid (row_next hb R2.out))); (try (replace R3 := Go.Lib.hid (row_next hb R3.out))); (try (replace R4 := Go.Lib.hid (row_next hb R4.out))); (try (replace S5 := Go.Lib.hid (S5.out.next hb))); (try (replace P7 := Go.Lib.hid (P7.out.next hb))); (try (replace M7 := Go.Lib.hid (M7.out.next hb))); (try (replace P11 := Go.Lib.hid (P11.out.next hb))); replace HP := Go.Lib.hid (HP.out.next hb); replace hB := Go.Lib.hid (below_next hB.out hb); clear hb))
    go_ret
    exact ⟨rfl, hB.out⟩
theorem tk_law (ao : Option Addr) (n cap : Nat) (ss : Nat → Sh) (e : ErrE) (w : World) (hE : Errs e w) (hm : n ≤ 9223372036854775807) (hf : ∀ i, (ss i).fit) (hp : StC w ao n ss) : Calls Tryd.prog 5 #[.slice ao n cap] w fun o w' => o = .returned (.bool true) ∧ Below w.heap.size w w' := by
  cases ho : stOk ss n
  · exact tk_walk ao n cap ss 0 ss 1 (by omega) e w hE hm hp (fun hn D w h => ltk_bad ss D n n _ w hn hf ho h)
      (fun hn D w hE h => (itk_bad ss D n e w hE hn hf ho h).mono fun o w' ⟨g1, g2⟩ => ⟨_, g1, PK.none, g2⟩)
  · have h6 : n ≤ 6 := by
      have h := ho
      unfold stOk at h
      rw [Bool.and_eq_true] at h
      simpa using h.2
    have hoo : ∀ k, k < n → okI (ss k) = true := fun k hk => by
      have h := ho
      unfold stOk at h
      rw [Bool.and_eq_true] at h
      cases hq : stOne ss k
      · rw [alN_no hq n hk] at h; cases h.1
      · unfold stOne at hq
        rw [Bool.and_eq_true] at hq
        rw [ok_eq (ss k) (hf k)]; exact hq.1
    exact tk_walk ao n cap ss n (turS ss n) 0 (by omega) e w hE hm hp
      (fun hn D w h => (ltk_ok ss D n n w hn hf ho hoo h).mono fun o w' ⟨v, g1, g2, g3⟩ => ⟨v, g1, g2.slp, g3⟩)
      (fun hn D w hE h => itk_ok ss D n e w hE hn hf ho hoo h)
end Go.Proofs.YtfhfiaphdgfmnaaDoor
