import Derived.Test.YtianedkknlggmaaTurnR
import Derived.Test.YtianedkknlggmaaPathK
namespace Go.Proofs.Ytianedkknlggmaa
open Go.RowKit
set_option maxRecDepth 100000
set_option linter.unusedVariables false
set_option linter.unusedSimpArgs false
set_option maxRecDepth 100000 in
set_option maxHeartbeats 8000000 in
theorem turnP_law (ao : Option Addr) (n cap : Nat) (px py : Nat → Int) (w : World) (hm : n ≤ 9223372036854775807) (hp : PathC w ao n px py) :
    Calls Try.prog 7 #[.slice ao n cap] w fun o w' => o = .returned (.bool true) ∧ Below w.heap.size w w' := by
  have hB : Hid (Below w.heap.size w w) := Go.Lib.hid (Below.refl _ _)
  have H0 := Go.Lib.hid hp
  have HZ := Go.Lib.hid fun w => szS_any ao n cap hm w
  clear hp
  by_cases hn : n ≤ 1048576
  · have hd : decide ((1048576 : Int) - (n : Int) < 0) = false := by simp; omega
    have hq : decide ((1 : Int) + (n : Int) * 2 < 0) = false := by simp; omega
    have HZ' := Go.Lib.hid fun w => by have h := HZ.out w; rw [if_pos hn] at h; exact h
    have HC := Go.Lib.hid fun w h => toSpotS_new ao n cap px py w hn h
    have HS := Go.Lib.hid fun D w h => specT_slp D n px py w hn h
    have HI := Go.Lib.hid fun D w h => implT_row D n px py w hn h
    have HE := Go.Lib.hid fun v1 v2 L1 L2 w h1 h2 => eqP_any v1 v2 n L1 L2 (tx n px) (tx n py) w hn h1 h2
    have HQ := Go.Lib.hid fun D D' w h h' => eqSpotS_any D D' n px py w hn h h'
    have HM := Go.Lib.hid fun D f w h => markS_any D n n (n * 2) f 1 w hn (Nat.le_refl _) ⟨by omega, by omega⟩ h
    have HH := Go.Lib.hid fun D f w h => heldS_any D n n (n * 2) f 1 w hn (Nat.le_refl _) ⟨by omega, by omega⟩ h
    clear HZ
    have F0 : Hid True := Go.Lib.hid trivial
    have F1 : Hid True := Go.Lib.hid trivial
    have F2 : Hid True := Go.Lib.hid trivial
    have G0 : Hid True := Go.Lib.hid trivial
    have M0 : Hid True := Go.Lib.hid trivial
    have E0 : Hid True := Go.Lib.hid trivial
    have E1 : Hid True := Go.Lib.hid trivial
    have E2 : Hid True := Go.Lib.hid trivial
    go_enter Try.func7, Try.ntmps7
    go_wp2_with (first
      | go_skip
      | (go_at_call 25; ((with_reducible refine (HZ'.out _).mono ?_)); rintro e w1 ⟨rfl, hb⟩; (try (replace R1 := Go.Lib.hid (row_next hb R1.out))); (try (replace R2 := Go.Lib.hid (row_next hb R2.out))); (try (replace R3 := Go.Lib.hid (row_next hb R3.out))); (try (replace R4 := Go.Lib.hid (row_next hb R4.out))); (try (replace R6 := Go.Lib.hid (row_next hb R6.out))); (try (replace R10 := Go.Lib.hid (row_next hb R10.out))); (try (replace M6 := Go.Lib.hid (row_next hb M6.out))); (try (replace S4 := Go.Lib.hid (S4.out.next hb))); replace hB := Go.Lib.hid (below_next hB.out hb); clear hb)
      | (go_at_call 27; replace F0 := F0.out; clear F0; (refine (HC.out _ (H0.out.next hB.out)).mono ?_); rintro e w1 ⟨rfl, hD, hb⟩; have R1 := Go.Lib.hid hD; clear hD; replace hB := Go.Lib.hid (below_next hB.out hb); clear hb)
      | (go_at_call 27; replace F1 := F1.out; clear F1; (refine (HC.out _ (H0.out.next hB.out)).mono ?_); rintro e w2 ⟨rfl, hD, hb⟩; (try (replace R1 := Go.Lib.hid (row_next hb R1.out))); (try (replace R2 := Go.Lib.hid (row_next hb R2.out))); (try (replace R3 := Go.Lib.hid (row_next hb R3.out))); (try (replace R4 := Go.Lib.hid (row_next hb R4.out))); (try (replace R6 := Go.Lib.hid (row_next hb R6.out))); (try (replace R10 := Go.Lib.hid (row_next hb R10.out))); (try (replace M6 := Go.Lib.hid (row_next hb M6.out))); (try (replace S4 := Go.Lib.hid (S4.out.next hb))); replace hB := Go.Lib.hid (below_next hB.out hb); clear hb; have R2 := Go.Lib.hid hD; clear hD; generalize w3.heap.size = b2 at R2 S4 hwb2 ⊢)
      | (go_at_call 27; replace F2 := F2.out; clear F2; (refine (HC.out _ (H0.out.next hB.out)).mono ?_); rintro e w4 ⟨rfl, hD, hb⟩; (try (replace R1 := Go.Lib.hid (row_next hb R1.out))); (try (replace R2 := Go.Lib.hid (row_next hb R2.out))); (try (replace R3 := Go.Lib.hid (row_next hb R3.out))); (try (replace R4 := Go.Lib.hid (row_next hb R4.out))); (try (replace R6 := Go.Lib.hid (row_next hb R6.out))); (try (replace R10 := Go.Lib.hid (row_next hb R10.out))); (try (replace M6 := Go.Lib.hid (row_next hb M6.out))); (try (replace S4 := Go.Lib.hid (S4.out.next hb))); replace hB := Go.Lib.hid (below_next hB.out hb); clear hb; have R3 := Go.Lib.hid hD; clear hD)
      | (go_at_call 27; (refine (HC.out _ (H0.out.next hB.out)).mono ?_); rintro e w5 ⟨rfl, hD, hb⟩; (try (replace R1 := Go.Lib.hid (row_next hb R1.out))); (try (replace R2 := Go.Lib.hid (row_next hb R2.out))); (try (replace R3 := Go.Lib.hid (row_next hb R3.out))); (try (replace R4 := Go.Lib.hid (row_next hb R4.out))); (try (replace R6 := Go.Lib.hid (row_next hb R6.out))); (try (replace R10 := Go.Lib.hid (row_next hb R10.out))); (try (replace M6 := Go.Lib.hid (row_next hb M6.out))); (try (replace S4 := Go.Lib.hid (S4.out.next hb))); replace hB := Go.Lib.hid (below_next hB.out hb); clear hb; have R4 := Go.Lib.hid hD; clear hD)
      | (go_at_call 26; (refine (HS.out _ _ R1.out).mono ?_); rintro e w3 ⟨v4, rfl, hS, hb⟩; clear R1; (try (replace R1 := Go.Lib.hid (row_next hb R1.out))); (try (replace R2 := Go.Lib.hid (row_next hb R2.out))); (try (replace R3 := Go.Lib.hid (row_next hb R3.out))); (try (replace R4 := Go.Lib.hid (row_next hb R4.out))); (try (replace R6 := Go.Lib.hid (row_next hb R6.out))); (try (replace R10 := Go.Lib.hid (row_next hb R10.out))); (try (replace M6 := Go.Lib.hid (row_next hb M6.out))); (try (replace S4 := Go.Lib.hid (S4.out.next hb))); replace hB := Go.Lib.hid (below_next hB.out hb); clear hb; have S4 := Go.Lib.hid hS; clear hS; have hwb2 := hB.out.size)
      | (go_at_call 28; replace G0 := G0.out; clear G0; (refine (HI.out _ _ R2.out).mono ?_); rintro e w6 ⟨rfl, f6, hD, hf6, hb⟩; have h26 := row_lt R2.out; (try (replace R1 := Go.Lib.hid (row_next hb R1.out))); (try (replace R2 := Go.Lib.hid (row_next hb R2.out))); (try (replace R3 := Go.Lib.hid (row_next hb R3.out))); (try (replace R4 := Go.Lib.hid (row_next hb R4.out))); (try (replace R6 := Go.Lib.hid (row_next hb R6.out))); (try (replace R10 := Go.Lib.hid (row_next hb R10.out))); (try (replace M6 := Go.Lib.hid (row_next hb M6.out))); (try (replace S4 := Go.Lib.hid (S4.out.next hb))); replace hB := Go.Lib.hid (below_next hB.out hb); clear hb; have R6 := Go.Lib.hid hD; clear hD; generalize w2.heap.size = b6 at R6 h26 ⊢; have HF6 := Go.Lib.hid hf6; clear hf6)
      | (go_at_call 28; (refine (HI.out _ _ R4.out).mono ?_); rintro e w7 ⟨rfl, f10, hD, hf10, hb⟩; (try (replace R1 := Go.Lib.hid (row_next hb R1.out))); (try (replace R2 := Go.Lib.hid (row_next hb R2.out))); (try (replace R3 := Go.Lib.hid (row_next hb R3.out))); (try (replace R4 := Go.Lib.hid (row_next hb R4.out))); (try (replace R6 := Go.Lib.hid (row_next hb R6.out))); (try (replace R10 := Go.Lib.hid (row_next hb R10.out))); (try (replace M6 := Go.Lib.hid (row_next hb M6.out))); (try (replace S4 := Go.Lib.hid (S4.out.next hb))); replace hB := Go.Lib.hid (below_next hB.out hb); clear hb; have R10 := Go.Lib.hid hD; clear hD; have HF10 := Go.Lib.hid hf10; clear hf10)
      | (go_at_call 29; replace E0 := E0.out; clear E0; (refine (HE.out _ _ _ _ _ (SlP.of (Nat.le_refl _) R6.out HF6.out) S4.out).mono ?_); rintro e w8 ⟨rfl, hb⟩; (try (replace R1 := Go.Lib.hid (row_next hb R1.out))); (try (replace R2 := Go.Lib.hid (row_next hb R2.out))); (try (replace R3 := Go.Lib.hid (row_next hb R3.out))); (try (replace R4 := Go.Lib.hid (row_next hb R4.out))); (try (replace R6 := Go.Lib.hid (row_next hb R6.out))); (try (replace R10 := Go.Lib.hid (row_next hb R10.out))); (try (replace M6 := Go.Lib.hid (row_next hb M6.out))); (try (replace S4 := Go.Lib.hid (S4.out.next hb))); replace hB := Go.Lib.hid (below_next hB.out hb); clear hb)
      | (go_at_call 29; replace E1 := E1.out; clear E1; (refine (HQ.out _ _ _ R2.out R3.out).mono ?_); rintro e w8 ⟨rfl, hb⟩; (try (replace R1 := Go.Lib.hid (row_next hb R1.out))); (try (replace R2 := Go.Lib.hid (row_next hb R2.out))); (try (replace R3 := Go.Lib.hid (row_next hb R3.out))); (try (replace R4 := Go.Lib.hid (row_next hb R4.out))); (try (replace R6 := Go.Lib.hid (row_next hb R6.out))); (try (replace R10 := Go.Lib.hid (row_next hb R10.out))); (try (replace M6 := Go.Lib.hid (row_next hb M6.out))); (try (replace S4 := Go.Lib.hid (S4.out.next hb))); replace hB := Go.Lib.hid (below_next hB.out hb); clear hb)
      | (go_at_call 29; replace E2 := E2.out; clear E2; (refine (HE.out _ _ _ _ _ (SlP.of (Nat.le_refl _) R6.out HF6.out) S4.out).mono ?_); rintro e w8 ⟨rfl, hb⟩; (try (replace R1 := Go.Lib.hid (row_next hb R1.out))); (try (replace R2 := Go.Lib.hid (row_next hb R2.out))); (try (replace R3 := Go.Lib.hid (row_next hb R3.out))); (try (replace R4 := Go.Lib.hid (row_next hb R4.out))); (try (replace R6 := Go.Lib.hid (row_next hb R6.out))); (try (replace R10 := Go.Lib.hid (row_next hb R10.out))); (try (replace M6 := Go.Lib.hid (row_next hb M6.out))); (try (replace S4 := Go.Lib.hid (S4.out.next hb))); replace hB := Go.Lib.hid (below_next hB.out hb); clear hb)
      | (go_at_call 29; (refine (HE.out _ _ _ _ _ (SlP.of (Nat.le_refl _) R10.out HF10.out) S4.out).mono ?_); rintro e w8 ⟨rfl, hb⟩; (try (replace R1 := Go.Lib.hid (row_next hb R1.out))); (try (replace R2 := Go.Lib.hid (row_next hb R2.out))); (try (replace R3 := Go.Lib.hid (row_next hb R3.out))); (try (replace R4 := Go.Lib.hid (row_next hb R4.out))); (try (replace R6 := Go.Lib.hid (row_next hb R6.out))); (try (replace R10 := Go.Lib.hid (row_next hb R10.out))); (try (replace M6 := Go.Lib.hid (row_next hb M6.out))); (try (replace S4 := Go.Lib.hid (S4.out.next hb))); replace hB := Go.Lib.hid (below_next hB.out hb); clear hb)
      | (go_at_call 30; replace M0 := M0.out; clear M0; (refine (HM.out b2 _ _ R2.out).mono ?_); rintro e w9 ⟨rfl, rfl⟩; clear R3; replace R6 := Go.Lib.hid (row_set' (g := b2) (show b6 ≠ b2 by omega) R6.out (vrow (n * 2) (mkC (spf px py) 1 (n * 2)))); replace S4 := Go.Lib.hid (S4.out.set (Nat.le_refl b2) (vrow (n * 2) (mkC (spf px py) 1 (n * 2)))); replace hB := Go.Lib.hid (Below_setRow hB.out (show w.heap.size ≤ b2 by omega) (vrow (n * 2) (mkC (spf px py) 1 (n * 2)))); clear R2; generalize World.setRow _ _ _ = w10 at R6 S4 hB ⊢)
      | (go_at_call 30; (refine (HM.out b6 _ _ R6.out).mono ?_); rintro e w9 ⟨rfl, rfl⟩; have M6 := Go.Lib.hid (row_set R6.out (vrow (n * 2) (mkC f6 1 (n * 2)))); replace S4 := Go.Lib.hid (S4.out.set (show b2 ≤ b6 by omega) (vrow (n * 2) (mkC f6 1 (n * 2)))); replace hB := Go.Lib.hid (Below_setRow hB.out (show w.heap.size ≤ b6 by omega) (vrow (n * 2) (mkC f6 1 (n * 2)))); clear R6; generalize World.setRow _ _ _ = w11 at M6 S4 hB ⊢)
      | (go_at_call 31; (refine (HH.out b6 _ _ M6.out).mono ?_); rintro e w8 ⟨rfl, hb⟩; (try (replace R1 := Go.Lib.hid (row_next hb R1.out))); (try (replace R2 := Go.Lib.hid (row_next hb R2.out))); (try (replace R3 := Go.Lib.hid (row_next hb R3.out))); (try (replace R4 := Go.Lib.hid (row_next hb R4.out))); (try (replace R6 := Go.Lib.hid (row_next hb R6.out))); (try (replace R10 := Go.Lib.hid (row_next hb R10.out))); (try (replace M6 := Go.Lib.hid (row_next hb M6.out))); (try (replace S4 := Go.Lib.hid (S4.out.next hb))); replace hB := Go.Lib.hid (below_next hB.out hb); clear hb))
    go_ret
    exact ⟨rfl, hB.out⟩
  · have hd : decide ((-1 : Int) < 0) = true := by simp
    have HZ' := Go.Lib.hid fun w => by have h := HZ.out w; rw [if_neg hn] at h; exact h
    clear HZ
    go_enter Try.func7, Try.ntmps7
    go_wp2_with (first
      | go_skip
      | (go_at_call 25; ((with_reducible refine (HZ'.out _).mono ?_)); rintro e w1 ⟨rfl, hb⟩; replace hB := Go.Lib.hid (below_next hB.out hb); clear hb))
    go_ret
    exact ⟨rfl, hB.out⟩
end Go.Proofs.Ytianedkknlggmaa
