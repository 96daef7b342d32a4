import Derived.Test.YtfhfiaphdgfmnaaSkS
import Derived.Test.YtfhfiaphdgfmnaaOpenSk
import Derived.Test.YtfhfiaphdgfmnaaOkEq
namespace Go.Proofs.Ytfhfiaphdgfmnaa
open Go.RowKit
set_option maxRecDepth 100000
set_option linter.unusedVariables false
set_option linter.unusedSimpArgs false
theorem szS_yes (ao : Option Addr) (n cap : Nat) (l : Int) (hn : n ≤ 9223372036854775807) (hl : 0 ≤ l ∧ l ≤ 1048576) (h : (n : Int) ≤ l) (w : World) : Calls Try.prog 5 #[.slice ao n cap, .int .i64 l] w fun e w' => e = .returned (.int .i64 (l - (n : Int))) ∧ Below w.heap.size w w' := by
  have g := szK_any ao n cap l hn hl w
  rwa [if_pos h] at g
theorem szS_no (ao : Option Addr) (n cap : Nat) (l : Int) (hn : n ≤ 9223372036854775807) (hl : 0 ≤ l ∧ l ≤ 1048576) (h : ¬(n : Int) ≤ l) (w : World) : Calls Try.prog 5 #[.slice ao n cap, .int .i64 l] w fun e w' => e = .returned (.int .i64 (-1)) ∧ Below w.heap.size w w' := by
  have g := szK_any ao n cap l hn hl w
  rwa [if_neg h] at g
set_option maxRecDepth 100000 in
set_option maxHeartbeats 8000000 in
theorem sk_law (ao bo : Option Addr) (n m c1 c2 : Nat) (sa sb : Nat → Sh) (w : World) (hn : n ≤ 9223372036854775807) (hm : m ≤ 9223372036854775807) (ha : StC w ao n sa) (hb0 : StC w bo m sb) :
    Calls Try.prog 4 #[.slice ao n c1, .slice bo m c2] w fun o w' => o = .returned (.bool true) ∧ Below w.heap.size w w' := by
  have hB : Hid (Below w.heap.size w w) := Go.Lib.hid (Below.refl _ _)
  have HA := Go.Lib.hid ha; have HB := Go.Lib.hid hb0
  clear ha hb0
  have hneg : decide ((-1 : Int) < 0) = true := by simp
  by_cases h1 : n ≤ 1048576
  rotate_left
  · have HZ1 := Go.Lib.hid fun w => szS_no ao n c1 1048576 hn ⟨by omega, by omega⟩ (by omega) w
    have Z0 : Hid True := Go.Lib.hid trivial
    go_enter Try.func4, Try.ntmps4
    go_wp2_with (first
      | go_skip
      | (go_at_call 5; replace Z0 := Z0.out; clear Z0; (refine (HZ1.out _).mono ?_); rintro e w1 ⟨rfl, hb⟩; (try (replace R1 := Go.Lib.hid (row_next hb R1.out))); (try (replace R2 := Go.Lib.hid (row_next hb R2.out))); (try (replace R3 := Go.Lib.hid (row_next hb R3.out))); (try (replace R4 := Go.Lib.hid (row_next hb R4.out))); (try (replace R5 := Go.Lib.hid (row_next hb R5.out))); (try (replace R6 := Go.Lib.hid (row_next hb R6.out))); replace HA := Go.Lib.hid (HA.out.next hb); replace HB := Go.Lib.hid (HB.out.next hb); replace hB := Go.Lib.hid (below_next hB.out hb); clear hb))
    go_ret
    exact ⟨rfl, hB.out⟩
  by_cases h2 : m ≤ 1048576 - n
  rotate_left
  · have HZ1 := Go.Lib.hid fun w => szS_yes ao n c1 1048576 hn ⟨by omega, by omega⟩ (by omega) w
    have HZ2 := Go.Lib.hid fun w => szS_no bo m c2 (1048576 - (n : Int)) hm ⟨by omega, by omega⟩ (by omega) w
    have hd : decide ((1048576 : Int) - (n : Int) < 0) = false := by simp; omega
    have Z0 : Hid True := Go.Lib.hid trivial
    go_enter Try.func4, Try.ntmps4
    go_wp2_with (first
      | go_skip
      | (go_at_call 5; replace Z0 := Z0.out; clear Z0; (refine (HZ1.out _).mono ?_); rintro e w1 ⟨rfl, hb⟩; (try (replace R1 := Go.Lib.hid (row_next hb R1.out))); (try (replace R2 := Go.Lib.hid (row_next hb R2.out))); (try (replace R3 := Go.Lib.hid (row_next hb R3.out))); (try (replace R4 := Go.Lib.hid (row_next hb R4.out))); (try (replace R5 := Go.Lib.hid (row_next hb R5.out))); (try (replace R6 := Go.Lib.hid (row_next hb R6.out))); replace HA := Go.Lib.hid (HA.out.next hb); replace HB := Go.Lib.hid (HB.out.next hb); replace hB := Go.Lib.hid (below_next hB.out hb); clear hb)
      | (go_at_call 5; (refine (HZ2.out _).mono ?_); rintro e w1 ⟨rfl, hb⟩; (try (replace R1 := Go.Lib.hid (row_next hb R1.out))); (try (replace R2 := Go.Lib.hid (row_next hb R2.out))); (try (replace R3 := Go.Lib.hid (row_next hb R3.out))); (try (replace R4 := Go.Lib.hid (row_next hb R4.out))); (try (replace R5 := Go.Lib.hid (row_next hb R5.out))); (try (replace R6 := Go.Lib.hid (row_next hb R6.out))); replace HA := Go.Lib.hid (HA.out.next hb); replace HB := Go.Lib.hid (HB.out.next hb); replace hB := Go.Lib.hid (below_next hB.out hb); clear hb))
    go_ret
    exact ⟨rfl, hB.out⟩
  obtain ⟨b, hS, hI⟩ : ∃ b, (∀ D1 D2 w, w.heap[D1]? = some (.cells (vrow (n * 266) (stF sa)) 40) → w.heap[D2]? = some (.cells (vrow (m * 266) (stF sb)) 40) → Calls Try.prog 10 #[.slice (some ⟨D1, 0, none⟩) n n, .slice (some ⟨D2, 0, none⟩) m m] w fun e w' => e = .returned (.bool b) ∧ Below w.heap.size w w') ∧ (∀ D1 D2 w, w.heap[D1]? = some (.cells (vrow (n * 266) (stF sa)) 40) → w.heap[D2]? = some (.cells (vrow (m * 266) (stF sb)) 40) → Calls Try.prog 11 #[.slice (some ⟨D1, 0, none⟩) n n, .slice (some ⟨D2, 0, none⟩) m m] w fun e w' => e = .returned (.bool b) ∧ Below w.heap.size w w') := by
    by_cases h3 : n = m
    · subst h3
      obtain ⟨q, hq⟩ := Classical.skolem.1 fun k => det_sheet (sa k) (sb k)
      exact ⟨alN q n, fun D1 D2 w g1 g2 => lsk_any sa sb D1 D2 n q hq w h1 g1 g2, fun D1 D2 w g1 g2 => isk_of _ _ _ w (esk_any sa sb D1 D2 n q hq w h1 g1 g2)⟩
    · exact ⟨false, fun D1 D2 w _ _ => lsk_ne _ _ _ _ _ _ w h3, fun D1 D2 w _ _ => isk_of _ _ _ w (esk_ne _ _ _ _ _ _ w h3)⟩
  · have HZ1 := Go.Lib.hid fun w => szS_yes ao n c1 1048576 hn ⟨by omega, by omega⟩ (by omega) w
    have HZ2 := Go.Lib.hid fun w => szS_yes bo m c2 (1048576 - (n : Int)) hm ⟨by omega, by omega⟩ (by omega) w
    have hd : decide ((1048576 : Int) - (n : Int) < 0) = false := by simp; omega
    have hd2 : decide ((1048576 : Int) - (n : Int) - (m : Int) < 0) = false := by simp; omega
    have CA := Go.Lib.hid fun w h => toStack_new ao n c1 sa w h1 h
    have CB := Go.Lib.hid fun w h => toStack_new bo m c2 sb w (by omega) h
    have HEA := Go.Lib.hid fun v1 v2 L1 L2 w g1 g2 => eqK_any v1 v2 n L1 L2 sa w h1 g1 g2
    have HEB := Go.Lib.hid fun v1 v2 L1 L2 w g1 g2 => eqK_any v1 v2 m L1 L2 sb w (by omega) g1 g2
    have HS := Go.Lib.hid hS; have HI := Go.Lib.hid hI
    clear hS hI
    have Z0 : Hid True := Go.Lib.hid trivial
    have F1 : Hid True := Go.Lib.hid trivial
    have F2 : Hid True := Go.Lib.hid trivial
    have F3 : Hid True := Go.Lib.hid trivial
    have F4 : Hid True := Go.Lib.hid trivial
    have F5 : Hid True := Go.Lib.hid trivial
    have E0 : Hid True := Go.Lib.hid trivial
    go_enter Try.func4, Try.ntmps4
    go_wp2_with (first
      | go_skip
      | (go_at_call 5; replace Z0 := Z0.out; clear Z0; (refine (HZ1.out _).mono ?_); rintro e w1 ⟨rfl, hb⟩; (try (replace R1 := Go.Lib.hid (row_next hb R1.out))); (try (replace R2 := Go.Lib.hid (row_next hb R2.out))); (try (replace R3 := Go.Lib.hid (row_next hb R3.out))); (try (replace R4 := Go.Lib.hid (row_next hb R4.out))); (try (replace R5 := Go.Lib.hid (row_next hb R5.out))); (try (replace R6 := Go.Lib.hid (row_next hb R6.out))); replace HA := Go.Lib.hid (HA.out.next hb); replace HB := Go.Lib.hid (HB.out.next hb); replace hB := Go.Lib.hid (below_next hB.out hb); clear hb)
      | (go_at_call 5; (refine (HZ2.out _).mono ?_); rintro e w1 ⟨rfl, hb⟩; (try (replace R1 := Go.Lib.hid (row_next hb R1.out))); (try (replace R2 := Go.Lib.hid (row_next hb R2.out))); (try (replace R3 := Go.Lib.hid (row_next hb R3.out))); (try (replace R4 := Go.Lib.hid (row_next hb R4.out))); (try (replace R5 := Go.Lib.hid (row_next hb R5.out))); (try (replace R6 := Go.Lib.hid (row_next hb R6.out))); replace HA := Go.Lib.hid (HA.out.next hb); replace HB := Go.Lib.hid (HB.out.next hb); replace hB := Go.Lib.hid (below_next hB.out hb); clear hb)
      | (go_at_call 7; replace F1 := F1.out; clear F1; (refine (CA.out _ HA.out).mono ?_); rintro e w2 ⟨rfl, hD, hb⟩; (try (replace R1 := Go.Lib.hid (row_next hb R1.out))); (try (replace R2 := Go.Lib.hid (row_next hb R2.out))); (try (replace R3 := Go.Lib.hid (row_next hb R3.out))); (try (replace R4 := Go.Lib.hid (row_next hb R4.out))); (try (replace R5 := Go.Lib.hid (row_next hb R5.out))); (try (replace R6 := Go.Lib.hid (row_next hb R6.out))); replace HA := Go.Lib.hid (HA.out.next hb); replace HB := Go.Lib.hid (HB.out.next hb); replace hB := Go.Lib.hid (below_next hB.out hb); clear hb; have R1 := Go.Lib.hid hD; clear hD)
      | (go_at_call 7; replace F2 := F2.out; clear F2; (refine (CB.out _ HB.out).mono ?_); rintro e w2 ⟨rfl, hD, hb⟩; (try (replace R1 := Go.Lib.hid (row_next hb R1.out))); (try (replace R2 := Go.Lib.hid (row_next hb R2.out))); (try (replace R3 := Go.Lib.hid (row_next hb R3.out))); (try (replace R4 := Go.Lib.hid (row_next hb R4.out))); (try (replace R5 := Go.Lib.hid (row_next hb R5.out))); (try (replace R6 := Go.Lib.hid (row_next hb R6.out))); replace HA := Go.Lib.hid (HA.out.next hb); replace HB := Go.Lib.hid (HB.out.next hb); replace hB := Go.Lib.hid (below_next hB.out hb); clear hb; have R2 := Go.Lib.hid hD; clear hD)
      | (go_at_call 7; replace F3 := F3.out; clear F3; (refine (CA.out _ HA.out).mono ?_); rintro e w2 ⟨rfl, hD, hb⟩; (try (replace R1 := Go.Lib.hid (row_next hb R1.out))); (try (replace R2 := Go.Lib.hid (row_next hb R2.out))); (try (replace R3 := Go.Lib.hid (row_next hb R3.out))); (try (replace R4 := Go.Lib.hid (row_next hb R4.out))); (try (replace R5 := Go.Lib.hid (row_next hb R5.out))); (try (replace R6 := Go.Lib.hid (row_next hb R6.out))); replace HA := Go.Lib.hid (HA.out.next hb); replace HB := Go.Lib.hid (HB.out.next hb); replace hB := Go.Lib.hid (below_next hB.out hb); clear hb; have R3 := Go.Lib.hid hD; clear hD)
      | (go_at_call 7; replace F4 := F4.out; clear F4; (refine (CB.out _ HB.out).mono ?_); rintro e w2 ⟨rfl, hD, hb⟩; (try (replace R1 := Go.Lib.hid (row_next hb R1.out))); (try (replace R2 := Go.Lib.hid (row_next hb R2.out))); (try (replace R3 := Go.Lib.hid (row_next hb R3.out))); (try (replace R4 := Go.Lib.hid (row_next hb R4.out))); (try (replace R5 := Go.Lib.hid (row_next hb R5.out))); (try (replace R6 := Go.Lib.hid (row_next hb R6.out))); replace HA := Go.Lib.hid (HA.out.next hb); replace HB := Go.Lib.hid (HB.out.next hb); replace hB := Go.Lib.hid (below_next hB.out hb); clear hb; have R4 := Go.Lib.hid hD; clear hD)
      | (go_at_call 7; replace F5 := F5.out; clear F5; (refine (CA.out _ HA.out).mono ?_); rintro e w2 ⟨rfl, hD, hb⟩; (try (replace R1 := Go.Lib.hid (row_next hb R1.out))); (try (replace R2 := Go.Lib.hid (row_next hb R2.out))); (try (replace R3 := Go.Lib.hid (row_next hb R3.out))); (try (replace R4 := Go.Lib.hid (row_next hb R4.out))); (try (replace R5 := Go.Lib.hid (row_next hb R5.out))); (try (replace R6 := Go.Lib.hid (row_next hb R6.out))); replace HA := Go.Lib.hid (HA.out.next hb); replace HB := Go.Lib.hid (HB.out.next hb); replace hB := Go.Lib.hid (below_next hB.out hb); clear hb; have R5 := Go.Lib.hid hD; clear hD)
      | (go_at_call 7; (refine (CB.out _ HB.out).mono ?_); rintro e w2 ⟨rfl, hD, hb⟩; (try (replace R1 := Go.Lib.hid (row_next hb R1.out))); (try (replace R2 := Go.Lib.hid (row_next hb R2.out))); (try (replace R3 := Go.Lib.hid (row_next hb R3.out))); (try (replace R4 := Go.Lib.hid (row_next hb R4.out))); (try (replace R5 := Go.Lib.hid (row_next hb R5.out))); (try (replace R6 := Go.Lib.hid (row_next hb R6.out))); replace HA := Go.Lib.hid (HA.out.next hb); replace HB := Go.Lib.hid (HB.out.next hb); replace hB := Go.Lib.hid (below_next hB.out hb); clear hb; have R6 := Go.Lib.hid hD; clear hD)
      | (go_at_call 10; (refine (HS.out _ _ _ R1.out R2.out).mono ?_); rintro e w5 ⟨rfl, hb⟩; clear R1 R2; (try (replace R1 := Go.Lib.hid (row_next hb R1.out))); (try (replace R2 := Go.Lib.hid (row_next hb R2.out))); (try (replace R3 := Go.Lib.hid (row_next hb R3.out))); (try (replace R4 := Go.Lib.hid (row_next hb R4.out))); (try (replace R5 := Go.Lib.hid (row_next hb R5.out))); (try (replace R6 := Go.Lib.hid (row_next hb R6.out))); replace HA := Go.Lib.hid (HA.out.next hb); replace HB := Go.Lib.hid (HB.out.next hb); replace hB := Go.Lib.hid (below_next hB.out hb); clear hb)
      | (go_at_call 11; (refine (HI.out _ _ _ R3.out R4.out).mono ?_); rintro e w5 ⟨rfl, hb⟩; (try (replace R1 := Go.Lib.hid (row_next hb R1.out))); (try (replace R2 := Go.Lib.hid (row_next hb R2.out))); (try (replace R3 := Go.Lib.hid (row_next hb R3.out))); (try (replace R4 := Go.Lib.hid (row_next hb R4.out))); (try (replace R5 := Go.Lib.hid (row_next hb R5.out))); (try (replace R6 := Go.Lib.hid (row_next hb R6.out))); replace HA := Go.Lib.hid (HA.out.next hb); replace HB := Go.Lib.hid (HB.out.next hb); replace hB := Go.Lib.hid (below_next hB.out hb); clear hb)
      | (go_at_call 9; replace E0 := E0.out; clear E0; (refine (HEA.out _ _ _ _ _ (SlK.row R3.out) (SlK.row R5.out)).mono ?_); rintro e w5 ⟨rfl, hb⟩; clear R5; (try (replace R1 := Go.Lib.hid (row_next hb R1.out))); (try (replace R2 := Go.Lib.hid (row_next hb R2.out))); (try (replace R3 := Go.Lib.hid (row_next hb R3.out))); (try (replace R4 := Go.Lib.hid (row_next hb R4.out))); (try (replace R5 := Go.Lib.hid (row_next hb R5.out))); (try (replace R6 := Go.Lib.hid (row_next hb R6.out))); replace HA := Go.Lib.hid (HA.out.next hb); replace HB := Go.Lib.hid (HB.out.next hb); replace hB := Go.Lib.hid (below_next hB.out hb); clear hb)
      | (go_at_call 9; (refine (HEB.out _ _ _ _ _ (SlK.row R4.out) (SlK.row R6.out)).mono ?_); rintro e w5 ⟨rfl, hb⟩; clear R6; (try (replace R1 := Go.Lib.hid (row_next hb R1.out))); (try (replace R2 := Go.Lib.hid (row_next hb R2.out))); (try (replace R3 := Go.Lib.hid (row_next hb R3.out))); (try (replace R4 := Go.Lib.hid (row_next hb R4.out))); (try (replace R5 := Go.Lib.hid (row_next hb R5.out))); (try (replace R6 := Go.Lib.hid (row_next hb R6.out))); replace HA := Go.Lib.hid (HA.out.next hb); replace HB := Go.Lib.hid (HB.out.next hb); replace hB := Go.Lib.hid (below_next hB.out hb); clear hb))
    go_ret
    exact ⟨rfl, hB.out⟩
end Go.Proofs.Ytfhfiaphdgfmnaa
