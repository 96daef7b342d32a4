import Derived.Deep.RegionHeld3
import Derived.Test.YtfhfiaphdgfmnaaDoorRbI
import Derived.Test.YtfhfiaphdgfmnaaDoorMkS
import Derived.Test.YtfhfiaphdgfmnaaDoorStZ
import Derived.Test.YtfhfiaphdgfmnaaDoorOpenSk
namespace Go.Proofs.YtfhfiaphdgfmnaaDoor
open Go.RowKit
set_option maxRecDepth 100000
set_option linter.unusedVariables false
set_option linter.unusedSimpArgs false
theorem SlI.setK {w : World} {v : Value} {n : Nat} {px : Nat → Int} {L g : Nat} (h : SlI w v n px L) (hg : L ≤ g) (cs : Array Value) : SlI (w.setRow g cs) v n px L := by
  obtain ⟨ao, c, rfl, hr⟩ := h
  refine ⟨ao, c, rfl, fun h0 => ?_⟩
  obtain ⟨D, N, f, h1, h2, h3, h4, h5⟩ := hr h0
  exact ⟨D, N, f, h1, h2, h3, row_set' (show D ≠ g by omega) h4 cs, h5⟩
theorem PI.setK {w : World} {v : Value} {n : Nat} {px : Nat → Int} {B g : Nat} (h : PI w v n px B) (hb : g < B) (cs : Array Value) : PI (w.setRow g cs) v n px B := by
  obtain ⟨ao, c, rfl, hr⟩ := h
  refine ⟨ao, c, rfl, hr.imp id ?_⟩
  rintro ⟨D, N, f, h1, h2, h3, h4, h5⟩
  exact ⟨D, N, f, h1, h2, h3, row_set' (show D ≠ g by omega) h4 cs, h5⟩
theorem PI.noneK {w : World} {B : Nat} {px : Nat → Int} : PI w (.slice none 0 0) 0 px B := ⟨_, _, rfl, .inl rfl⟩
set_option maxRecDepth 100000 in
set_option maxHeartbeats 8000000 in
theorem rb_walk (ao : Option Addr) (n cap : Nat) (ss : Nat → Sh) (q : Int) (m : Nat) (px : Nat → Int) (c : Int) (hmm : m ≤ 1048576) (e : ErrE) (w : World) (hE : Errs e w) (hm : n ≤ 9223372036854775807) (hp : StC w ao n ss)
    (hS : n ≤ 1048576 → ∀ D w, w.heap[D]? = some (.cells (vrow (n * 266) (stF ss)) 39) → Calls Tryd.prog 27 #[.slice (some ⟨D, 0, none⟩) n n, .int .i64 q] w fun o w' => ∃ v, o = .returned (.tuple #[v, .int .i64 c]) ∧ SlI w' v m px w'.heap.size ∧ Below w.heap.size w w')
    (hI : n ≤ 1048576 → ∀ D w, Errs e w → w.heap[D]? = some (.cells (vrow (n * 266) (stF ss)) 39) → Calls Tryd.prog 28 #[.slice (some ⟨D, 0, none⟩) n n, .int .i64 q] w fun o w' => ∃ v, o = .returned (.tuple #[v, .int .i64 c]) ∧ PI w' v m px w.heap.size ∧ Below w.heap.size w w') :
    Calls Tryd.prog 7 #[.slice ao n cap, .int .i64 q] w fun o w' => o = .returned (.bool true) ∧ Below w.heap.size w w' := by
  have hB : Hid (Below w.heap.size w w) := Go.Lib.hid (Below.refl _ _)
  have HP := Go.Lib.hid hp
  have HP0 := Go.Lib.hid hp
  clear hp
  by_cases hn : n ≤ 1048576
  rotate_left
  · have HZ := Go.Lib.hid fun w => szS_no ao n cap 1048576 hm ⟨by omega, by omega⟩ (by omega) w
    have hneg : decide ((-1 : Int) < 0) = true := by simp
    clear hS hI
    go_enter Tryd.func7, Tryd.ntmps7
    go_wp2_with (first
      | go_skip
      | (go_at_call 11; (refine (HZ.out _).mono ?_); rintro e w1 ⟨rfl, hb⟩; (try (replace R1 := Go.Lib.hid (row_next hb R1.out))); (try (replace R2 := Go.Lib.hid (row_next hb R2.out))); (try (replace R3 := Go.Lib.hid (row_next hb R3.out))); (try (replace R4 := Go.Lib.hid (row_next hb R4.out))); replace HP := Go.Lib.hid (HP.out.next hb); replace hB := Go.Lib.hid (below_next hB.out hb); clear hb))
    go_ret
    exact ⟨rfl, hB.out⟩
  · have HZ := Go.Lib.hid fun w => szS_yes ao n cap 1048576 hm ⟨by omega, by omega⟩ (by omega) w
    have hd : decide ((1048576 : Int) - (n : Int) < 0) = false := by simp; omega
    have HC := Go.Lib.hid fun w h => toStack_new ao n cap ss w hn h
    have HS := Go.Lib.hid (hS hn)
    have HI := Go.Lib.hid (hI hn)
    have HQ := Go.Lib.hid fun v1 v2 L1 L2 w g1 g2 => eqK_any v1 v2 n L1 L2 ss w hn g1 g2
    clear hS hI
    have HE := Go.Lib.hid fun v1 v2 L1 L2 w h1 h2 => eqI_any v1 v2 m L1 L2 px w hmm h1 h2
    have HM := Go.Lib.hid fun v B w hB h => markPI v m px B w hmm hB h
    have HH := Go.Lib.hid fun v w h => heldMI v m w hmm h
    have HK := Go.Lib.hid fun D f w h => markK_any D n n f w hn h
    have hq1 : decide ((1 : Int) + (m : Int) < 0) = false := by simp; omega
    have hq2 : decide ((1 : Int) + 10 * (n : Int) < 0) = false := by simp; omega
    have F0 : Hid True := Go.Lib.hid trivial
    have F1 : Hid True := Go.Lib.hid trivial
    have F2 : Hid True := Go.Lib.hid trivial
    have G0 : Hid True := Go.Lib.hid trivial
    have E0 : Hid True := Go.Lib.hid trivial
    have E1 : Hid True := Go.Lib.hid trivial
    have M0 : Hid True := Go.Lib.hid trivial
    go_enter Tryd.func7, Tryd.ntmps7
    go_wp2_with (first
      | go_skip
      | (go_at_call 11; (refine (HZ.out _).mono ?_); rintro e w1 ⟨rfl, hb⟩; (try (replace HX := Go.Lib.hid (Nat.le_trans HX.out hb.size))); (try (replace R1 := Go.Lib.hid (row_next hb R1.out))); (try (replace R2 := Go.Lib.hid (row_next hb R2.out))); (try (replace R3 := Go.Lib.hid (row_next hb R3.out))); (try (replace R4 := Go.Lib.hid (row_next hb R4.out))); (try (replace S5 := Go.Lib.hid (S5.out.next hb))); (try (replace P7 := Go.Lib.hid (P7.out.next hb))); (try (replace M7 := Go.Lib.hid (M7.out.next hb))); (try (replace P11 := Go.Lib.hid (P11.out.next hb))); replace HP := Go.Lib.hid (HP.out.next hb); replace hB := Go.Lib.hid (below_next hB.out hb); clear hb)
      | (go_at_call 13; replace F0 := F0.out; clear F0; (refine (HC.out _ HP.out).mono ?_); rintro e w1 ⟨rfl, hD, hb⟩; (try (replace HX := Go.Lib.hid (Nat.le_trans HX.out hb.size))); (try (replace R1 := Go.Lib.hid (row_next hb R1.out))); (try (replace R2 := Go.Lib.hid (row_next hb R2.out))); (try (replace R3 := Go.Lib.hid (row_next hb R3.out))); (try (replace R4 := Go.Lib.hid (row_next hb R4.out))); (try (replace S5 := Go.Lib.hid (S5.out.next hb))); (try (replace P7 := Go.Lib.hid (P7.out.next hb))); (try (replace M7 := Go.Lib.hid (M7.out.next hb))); (try (replace P11 := Go.Lib.hid (P11.out.next hb))); replace HP := Go.Lib.hid (HP.out.next hb); replace hB := Go.Lib.hid (below_next hB.out hb); clear hb; have R1 := Go.Lib.hid hD; clear hD)
      | (go_at_call 13; replace F1 := F1.out; clear F1; (refine (HC.out _ HP.out).mono ?_); rintro e w2 ⟨rfl, hD, hb⟩; (try (replace HX := Go.Lib.hid (Nat.le_trans HX.out hb.size))); (try (replace R1 := Go.Lib.hid (row_next hb R1.out))); (try (replace R2 := Go.Lib.hid (row_next hb R2.out))); (try (replace R3 := Go.Lib.hid (row_next hb R3.out))); (try (replace R4 := Go.Lib.hid (row_next hb R4.out))); (try (replace S5 := Go.Lib.hid (S5.out.next hb))); (try (replace P7 := Go.Lib.hid (P7.out.next hb))); (try (replace M7 := Go.Lib.hid (M7.out.next hb))); (try (replace P11 := Go.Lib.hid (P11.out.next hb))); replace HP := Go.Lib.hid (HP.out.next hb); replace hB := Go.Lib.hid (below_next hB.out hb); clear hb; have R2 := Go.Lib.hid hD; clear hD; have hwb := hb3; clear hb3; generalize w3.heap.size = b2 at R2 S5 hwb ⊢)
      | (go_at_call 13; replace F2 := F2.out; clear F2; (refine (HC.out _ HP.out).mono ?_); rintro e w4 ⟨rfl, hD, hb⟩; (try (replace HX := Go.Lib.hid (Nat.le_trans HX.out hb.size))); (try (replace R1 := Go.Lib.hid (row_next hb R1.out))); (try (replace R2 := Go.Lib.hid (row_next hb R2.out))); (try (replace R3 := Go.Lib.hid (row_next hb R3.out))); (try (replace R4 := Go.Lib.hid (row_next hb R4.out))); (try (replace S5 := Go.Lib.hid (S5.out.next hb))); (try (replace P7 := Go.Lib.hid (P7.out.next hb))); (try (replace M7 := Go.Lib.hid (M7.out.next hb))); (try (replace P11 := Go.Lib.hid (P11.out.next hb))); replace HP := Go.Lib.hid (HP.out.next hb); replace hB := Go.Lib.hid (below_next hB.out hb); clear hb; have R3 := Go.Lib.hid hD; clear hD)
      | (go_at_call 13; (refine (HC.out _ HP.out).mono ?_); rintro e w5 ⟨rfl, hD, hb⟩; (try (replace HX := Go.Lib.hid (Nat.le_trans HX.out hb.size))); (try (replace R1 := Go.Lib.hid (row_next hb R1.out))); (try (replace R2 := Go.Lib.hid (row_next hb R2.out))); (try (replace R3 := Go.Lib.hid (row_next hb R3.out))); (try (replace R4 := Go.Lib.hid (row_next hb R4.out))); (try (replace S5 := Go.Lib.hid (S5.out.next hb))); (try (replace P7 := Go.Lib.hid (P7.out.next hb))); (try (replace M7 := Go.Lib.hid (M7.out.next hb))); (try (replace P11 := Go.Lib.hid (P11.out.next hb))); replace HP := Go.Lib.hid (HP.out.next hb); replace hB := Go.Lib.hid (below_next hB.out hb); clear hb; have R4 := Go.Lib.hid hD; clear hD)
      | (go_at_call 27; (refine (HS.out _ _ R1.out).mono ?_); rintro e w3 ⟨v5, rfl, hS5, hb⟩; clear R1; (try (replace HX := Go.Lib.hid (Nat.le_trans HX.out hb.size))); (try (replace R1 := Go.Lib.hid (row_next hb R1.out))); (try (replace R2 := Go.Lib.hid (row_next hb R2.out))); (try (replace R3 := Go.Lib.hid (row_next hb R3.out))); (try (replace R4 := Go.Lib.hid (row_next hb R4.out))); (try (replace S5 := Go.Lib.hid (S5.out.next hb))); (try (replace P7 := Go.Lib.hid (P7.out.next hb))); (try (replace M7 := Go.Lib.hid (M7.out.next hb))); (try (replace P11 := Go.Lib.hid (P11.out.next hb))); replace HP := Go.Lib.hid (HP.out.next hb); replace hB := Go.Lib.hid (below_next hB.out hb); clear hb; have S5 := Go.Lib.hid hS5; clear hS5; have hb3 := hB.out.size)
      | (go_at_call 28; replace G0 := G0.out; clear G0; have hPB := row_lt R2.out; (refine (HI.out _ _ (hE.next hB.out) R2.out).mono ?_); rintro e w7 ⟨v7, rfl, hP7, hb⟩; have HX := Go.Lib.hid hb.size; (try (replace R1 := Go.Lib.hid (row_next hb R1.out))); (try (replace R2 := Go.Lib.hid (row_next hb R2.out))); (try (replace R3 := Go.Lib.hid (row_next hb R3.out))); (try (replace R4 := Go.Lib.hid (row_next hb R4.out))); (try (replace S5 := Go.Lib.hid (S5.out.next hb))); (try (replace P7 := Go.Lib.hid (P7.out.next hb))); (try (replace M7 := Go.Lib.hid (M7.out.next hb))); (try (replace P11 := Go.Lib.hid (P11.out.next hb))); replace HP := Go.Lib.hid (HP.out.next hb); replace hB := Go.Lib.hid (below_next hB.out hb); clear hb; have P7 := Go.Lib.hid hP7; clear hP7; generalize w2.heap.size = B7 at P7 HX hPB ⊢)
      | (go_at_call 28; (refine (HI.out _ _ (hE.next hB.out) R4.out).mono ?_); rintro e w8 ⟨v11, rfl, hP11, hb⟩; (try (replace HX := Go.Lib.hid (Nat.le_trans HX.out hb.size))); (try (replace R1 := Go.Lib.hid (row_next hb R1.out))); (try (replace R2 := Go.Lib.hid (row_next hb R2.out))); (try (replace R3 := Go.Lib.hid (row_next hb R3.out))); (try (replace R4 := Go.Lib.hid (row_next hb R4.out))); (try (replace S5 := Go.Lib.hid (S5.out.next hb))); (try (replace P7 := Go.Lib.hid (P7.out.next hb))); (try (replace M7 := Go.Lib.hid (M7.out.next hb))); (try (replace P11 := Go.Lib.hid (P11.out.next hb))); replace HP := Go.Lib.hid (HP.out.next hb); replace hB := Go.Lib.hid (below_next hB.out hb); clear hb; have P11 := Go.Lib.hid hP11; clear hP11)
      | (go_at_call 29; replace E0 := E0.out; clear E0; (refine (HE.out _ _ _ _ _ P7.out.slp S5.out).mono ?_); rintro e w9 ⟨rfl, hb⟩; (try (replace HX := Go.Lib.hid (Nat.le_trans HX.out hb.size))); (try (replace R1 := Go.Lib.hid (row_next hb R1.out))); (try (replace R2 := Go.Lib.hid (row_next hb R2.out))); (try (replace R3 := Go.Lib.hid (row_next hb R3.out))); (try (replace R4 := Go.Lib.hid (row_next hb R4.out))); (try (replace S5 := Go.Lib.hid (S5.out.next hb))); (try (replace P7 := Go.Lib.hid (P7.out.next hb))); (try (replace M7 := Go.Lib.hid (M7.out.next hb))); (try (replace P11 := Go.Lib.hid (P11.out.next hb))); replace HP := Go.Lib.hid (HP.out.next hb); replace hB := Go.Lib.hid (below_next hB.out hb); clear hb)
      | (go_at_call 16; (refine (HQ.out _ _ _ _ _ (SlK.row R2.out) (SlK.row R3.out)).mono ?_); rintro e w9 ⟨rfl, hb⟩; clear R3; (try (replace HX := Go.Lib.hid (Nat.le_trans HX.out hb.size))); (try (replace R1 := Go.Lib.hid (row_next hb R1.out))); (try (replace R2 := Go.Lib.hid (row_next hb R2.out))); (try (replace R3 := Go.Lib.hid (row_next hb R3.out))); (try (replace R4 := Go.Lib.hid (row_next hb R4.out))); (try (replace S5 := Go.Lib.hid (S5.out.next hb))); (try (replace P7 := Go.Lib.hid (P7.out.next hb))); (try (replace M7 := Go.Lib.hid (M7.out.next hb))); (try (replace P11 := Go.Lib.hid (P11.out.next hb))); replace HP := Go.Lib.hid (HP.out.next hb); replace hB := Go.Lib.hid (below_next hB.out hb); clear hb)
      | (go_at_call 29; replace E1 := E1.out; clear E1; (refine (HE.out _ _ _ _ _ P7.out.slp S5.out).mono ?_); rintro e w9 ⟨rfl, hb⟩; (try (replace HX := Go.Lib.hid (Nat.le_trans HX.out hb.size))); (try (replace R1 := Go.Lib.hid (row_next hb R1.out))); (try (replace R2 := Go.Lib.hid (row_next hb R2.out))); (try (replace R3 := Go.Lib.hid (row_next hb R3.out))); (try (replace R4 := Go.Lib.hid (row_next hb R4.out))); (try (replace S5 := Go.Lib.hid (S5.out.next hb))); (try (replace P7 := Go.Lib.hid (P7.out.next hb))); (try (replace M7 := Go.Lib.hid (M7.out.next hb))); (try (replace P11 := Go.Lib.hid (P11.out.next hb))); replace HP := Go.Lib.hid (HP.out.next hb); replace hB := Go.Lib.hid (below_next hB.out hb); clear hb)
      | (go_at_call 29; (refine (HE.out _ _ _ _ _ P11.out.slp S5.out).mono ?_); rintro e w9 ⟨rfl, hb⟩; (try (replace HX := Go.Lib.hid (Nat.le_trans HX.out hb.size))); (try (replace R1 := Go.Lib.hid (row_next hb R1.out))); (try (replace R2 := Go.Lib.hid (row_next hb R2.out))); (try (replace R3 := Go.Lib.hid (row_next hb R3.out))); (try (replace R4 := Go.Lib.hid (row_next hb R4.out))); (try (replace S5 := Go.Lib.hid (S5.out.next hb))); (try (replace P7 := Go.Lib.hid (P7.out.next hb))); (try (replace M7 := Go.Lib.hid (M7.out.next hb))); (try (replace P11 := Go.Lib.hid (P11.out.next hb))); replace HP := Go.Lib.hid (HP.out.next hb); replace hB := Go.Lib.hid (below_next hB.out hb); clear hb)
      | (go_at_call 17; replace M0 := M0.out; clear M0; (refine (HK.out _ _ _ R2.out).mono ?_); rintro e w9 ⟨rfl, fm, rfl⟩; replace S5 := Go.Lib.hid (S5.out.setK (Nat.le_refl b2) (vrow (n * 266) fm)); replace P7 := Go.Lib.hid (P7.out.setK (show b2 < B7 by omega) (vrow (n * 266) fm)); replace HP := Go.Lib.hid (HP0.out.next (Below_setRow hB.out (show w.heap.size ≤ b2 by omega) (vrow (n * 266) fm))); replace hB := Go.Lib.hid (Below_setRow hB.out (show w.heap.size ≤ b2 by omega) (vrow (n * 266) fm)); replace HX := Go.Lib.hid (show B7 ≤ (World.setRow _ b2 (vrow (n * 266) fm)).heap.size from Nat.le_trans HX.out (Below_setRow (Below.refl 0 _) (Nat.zero_le b2) (vrow (n * 266) fm)).size); clear R2; generalize World.setRow _ _ _ = w10 at S5 P7 HP hB HX ⊢)
      | (go_at_call 30; (refine (HM.out _ _ _ HX.out P7.out).mono ?_); rintro e w11 ⟨rfl, hM, hb⟩; replace S5 := Go.Lib.hid (S5.out.below (hb.mono (show b2 ≤ B7 by omega))); replace HP := Go.Lib.hid (HP0.out.next (hB.out.trans (hb.mono (show w.heap.size ≤ B7 by omega)))); replace hB := Go.Lib.hid (hB.out.trans (hb.mono (show w.heap.size ≤ B7 by omega))); replace HX := Go.Lib.hid (Nat.le_trans HX.out hb.size); clear P7 hb; have M7 := Go.Lib.hid hM; clear hM)
      | (go_at_call 31; (refine (HH.out _ _ M7.out).mono ?_); rintro e w9 ⟨rfl, hb⟩; (try (replace HX := Go.Lib.hid (Nat.le_trans HX.out hb.size))); (try (replace R1 := Go.Lib.hid (row_next hb R1.out))); (try (replace R2 := Go.Lib.hid (row_next hb R2.out))); (try (replace R3 := Go.Lib.hid (row_next hb R3.out))); (try (replace R4 := Go.Lib.hid (row_next hb R4.out))); (try (replace S5 := Go.Lib.hid (S5.out.next hb))); (try (replace P7 := Go.Lib.hid (P7.out.next hb))); (try (replace M7 := Go.Lib.hid (M7.out.next hb))); (try (replace P11 := Go.Lib.hid (P11.out.next hb))); replace HP := Go.Lib.hid (HP.out.next hb); replace hB := Go.Lib.hid (below_next hB.out hb); clear hb))
    go_ret
    exact ⟨rfl, hB.out⟩
theorem rb_law (ao : Option Addr) (n cap : Nat) (ss : Nat → Sh) (q : Int) (e : ErrE) (w : World) (hE : Errs e w) (hm : n ≤ 9223372036854775807) (hf : ∀ i, (ss i).fit) (hp : StC w ao n ss) : Calls Tryd.prog 7 #[.slice ao n cap, .int .i64 q] w fun o w' => o = .returned (.bool true) ∧ Below w.heap.size w w' := by
  cases ho : stOk ss n
  · exact rb_walk ao n cap ss q 0 (fun _ => 0) 1 (by omega) e w hE hm hp (fun hn D w h => lrb_bad ss D n n q _ w hn hf ho h)
      (fun hn D w hE h => (irb_err ss D n q e 1 1 w hE (Go.Lib.hid fun w hE h => ckRb_bad ss D n q e w hE hn hf ho h) (Go.Lib.hid fun w hE => codeOf_1 e w hE) h).mono fun o w' ⟨g1, g2⟩ => ⟨_, g1, PI.noneK, g2⟩)
  · have h6 : n ≤ 6 := by
      have h := ho
      unfold stOk at h
      rw [Bool.and_eq_true] at h
      simpa using h.2
    have hoo : ∀ k, k < n → okI (ss k) = true := fun k hk => by
      have h := ho
      unfold stOk at h
      rw [Bool.and_eq_true] at h
      cases hq : stOne ss k
      · rw [alN_no hq n hk] at h; cases h.1
      · unfold stOne at hq
        rw [Bool.and_eq_true] at hq
        rw [ok_eq (ss k) (hf k)]; exact hq.1
    by_cases hlo : q < 0
    · exact rb_walk ao n cap ss q 0 (fun _ => 0) 2 (by omega) e w hE hm hp (fun hn D w h => lrb_ink ss D n n q _ w hn hf ho (.inl hlo) h)
        (fun hn D w hE h => (irb_err ss D n q e 2 2 w hE (Go.Lib.hid fun w hE h => ckRb_lo ss D n q e w hE hn hf ho hlo h) (Go.Lib.hid fun w hE => codeOf_2 e w hE) h).mono fun o w' ⟨g1, g2⟩ => ⟨_, g1, PI.noneK, g2⟩)
    · by_cases hhi : 3 ≤ q
      · exact rb_walk ao n cap ss q 0 (fun _ => 0) 2 (by omega) e w hE hm hp (fun hn D w h => lrb_ink ss D n n q _ w hn hf ho (.inr hhi) h)
          (fun hn D w hE h => (irb_err ss D n q e 2 2 w hE (Go.Lib.hid fun w hE h => ckRb_hi ss D n q e w hE hn hf ho hhi h) (Go.Lib.hid fun w hE => codeOf_2 e w hE) h).mono fun o w' ⟨g1, g2⟩ => ⟨_, g1, PI.noneK, g2⟩)
      · obtain ⟨p, rfl⟩ : ∃ p : Nat, q = (p : Int) := ⟨q.toNat, by omega⟩
        exact rb_walk ao n cap ss p _ (li (rchT ss p n)) 0 (Nat.le_trans (rchT_len _ _ _) (by omega)) e w hE hm hp
          (fun hn D w h => (lrb_ok ss D n n p w hn hf ho (by omega) h).mono fun o w' ⟨v, g1, g2, g3⟩ => ⟨v, g1, (own_pi g2).slp, g3⟩)
          (fun hn D w hE h => (irb_ok ss D n p e w hE hn hf ho hoo (by omega) h).mono fun o w' ⟨v, g1, g2, g3⟩ => ⟨v, g1, own_pi g2, g3⟩)
end Go.Proofs.YtfhfiaphdgfmnaaDoor
