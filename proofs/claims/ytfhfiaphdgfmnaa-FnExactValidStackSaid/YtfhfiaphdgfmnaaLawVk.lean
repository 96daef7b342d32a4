import Derived.Test.YtfhfiaphdgfmnaaSkX
import Derived.Test.YtfhfiaphdgfmnaaStZ
import Derived.Test.YtfhfiaphdgfmnaaOpenSk
namespace Go.Proofs.Ytfhfiaphdgfmnaa
open Go.RowKit
set_option maxRecDepth 100000
set_option linter.unusedVariables false
set_option linter.unusedSimpArgs false
set_option maxRecDepth 100000 in
set_option maxHeartbeats 8000000 in
theorem vk_walk (ao : Option Addr) (n cap : Nat) (ss : Nat → Sh) (rb : Bool) (w : World) (hm : n ≤ 9223372036854775807) (hp : StC w ao n ss)
    (hS : n ≤ 1048576 → ∀ D w, w.heap[D]? = some (.cells (vrow (n * 266) (stF ss)) 40) → Calls Try.prog 6 #[.slice (some ⟨D, 0, none⟩) n n] w fun o w' => o = .returned (.bool rb) ∧ Below w.heap.size w w')
    (hI : n ≤ 1048576 → ∀ D w, w.heap[D]? = some (.cells (vrow (n * 266) (stF ss)) 40) → Calls Try.prog 8 #[.slice (some ⟨D, 0, none⟩) n n] w fun o w' => o = .returned (.bool rb) ∧ Below w.heap.size w w') :
    Calls Try.prog 3 #[.slice ao n cap] w fun o w' => o = .returned (.bool true) ∧ Below w.heap.size w w' := by
  have hB : Hid (Below w.heap.size w w) := Go.Lib.hid (Below.refl _ _)
  have HP := Go.Lib.hid hp
  clear hp
  by_cases hn : n ≤ 1048576
  rotate_left
  · have HZ := Go.Lib.hid fun w => szS_no ao n cap 1048576 hm ⟨by omega, by omega⟩ (by omega) w
    have hneg : decide ((-1 : Int) < 0) = true := by simp
    clear hS hI
    go_enter Try.func3, Try.ntmps3
    go_wp2_with (first
      | go_skip
      | (go_at_call 5; (refine (HZ.out _).mono ?_); rintro e w1 ⟨rfl, hb⟩; (try (replace R1 := Go.Lib.hid (row_next hb R1.out))); (try (replace R2 := Go.Lib.hid (row_next hb R2.out))); (try (replace R3 := Go.Lib.hid (row_next hb R3.out))); (try (replace R4 := Go.Lib.hid (row_next hb R4.out))); replace HP := Go.Lib.hid (HP.out.next hb); replace hB := Go.Lib.hid (below_next hB.out hb); clear hb))
    go_ret
    exact ⟨rfl, hB.out⟩
  · have HZ := Go.Lib.hid fun w => szS_yes ao n cap 1048576 hm ⟨by omega, by omega⟩ (by omega) w
    have hd : decide ((1048576 : Int) - (n : Int) < 0) = false := by simp; omega
    have HC := Go.Lib.hid fun w h => toStack_new ao n cap ss w hn h
    have HS := Go.Lib.hid (hS hn)
    have HI := Go.Lib.hid (hI hn)
    have HQ := Go.Lib.hid fun v1 v2 L1 L2 w g1 g2 => eqK_any v1 v2 n L1 L2 ss w hn g1 g2
    clear hS hI
    have F0 : Hid True := Go.Lib.hid trivial
    have F1 : Hid True := Go.Lib.hid trivial
    go_enter Try.func3, Try.ntmps3
    go_wp2_with (first
      | go_skip
      | (go_at_call 5; (refine (HZ.out _).mono ?_); rintro e w1 ⟨rfl, hb⟩; (try (replace R1 := Go.Lib.hid (row_next hb R1.out))); (try (replace R2 := Go.Lib.hid (row_next hb R2.out))); (try (replace R3 := Go.Lib.hid (row_next hb R3.out))); (try (replace R4 := Go.Lib.hid (row_next hb R4.out))); (try (replace V := Go.Lib.hid (V.out.next hb))); replace HP := Go.Lib.hid (HP.out.next hb); replace hB := Go.Lib.hid (below_next hB.out hb); clear hb)
      | (go_at_call 7; replace F0 := F0.out; clear F0; (refine (HC.out _ HP.out).mono ?_); rintro e w2 ⟨rfl, hD, hb⟩; (try (replace R1 := Go.Lib.hid (row_next hb R1.out))); (try (replace R2 := Go.Lib.hid (row_next hb R2.out))); (try (replace R3 := Go.Lib.hid (row_next hb R3.out))); (try (replace R4 := Go.Lib.hid (row_next hb R4.out))); (try (replace V := Go.Lib.hid (V.out.next hb))); replace HP := Go.Lib.hid (HP.out.next hb); replace hB := Go.Lib.hid (below_next hB.out hb); clear hb; have R1 := Go.Lib.hid hD; clear hD)
      | (go_at_call 7; replace F1 := F1.out; clear F1; (refine (HC.out _ HP.out).mono ?_); rintro e w2 ⟨rfl, hD, hb⟩; (try (replace R1 := Go.Lib.hid (row_next hb R1.out))); (try (replace R2 := Go.Lib.hid (row_next hb R2.out))); (try (replace R3 := Go.Lib.hid (row_next hb R3.out))); (try (replace R4 := Go.Lib.hid (row_next hb R4.out))); (try (replace V := Go.Lib.hid (V.out.next hb))); replace HP := Go.Lib.hid (HP.out.next hb); replace hB := Go.Lib.hid (below_next hB.out hb); clear hb; have R2 := Go.Lib.hid hD; clear hD)
      | (go_at_call 7; (refine (HC.out _ HP.out).mono ?_); rintro e w2 ⟨rfl, hD, hb⟩; (try (replace R1 := Go.Lib.hid (row_next hb R1.out))); (try (replace R2 := Go.Lib.hid (row_next hb R2.out))); (try (replace R3 := Go.Lib.hid (row_next hb R3.out))); (try (replace R4 := Go.Lib.hid (row_next hb R4.out))); (try (replace V := Go.Lib.hid (V.out.next hb))); replace HP := Go.Lib.hid (HP.out.next hb); replace hB := Go.Lib.hid (below_next hB.out hb); clear hb; have R3 := Go.Lib.hid hD; clear hD)
      | (go_at_call 6; (refine (HS.out _ _ R1.out).mono ?_); rintro e w5 ⟨rfl, hb⟩; clear R1; (try (replace R1 := Go.Lib.hid (row_next hb R1.out))); (try (replace R2 := Go.Lib.hid (row_next hb R2.out))); (try (replace R3 := Go.Lib.hid (row_next hb R3.out))); (try (replace R4 := Go.Lib.hid (row_next hb R4.out))); (try (replace V := Go.Lib.hid (V.out.next hb))); replace HP := Go.Lib.hid (HP.out.next hb); replace hB := Go.Lib.hid (below_next hB.out hb); clear hb)
      | (go_at_call 8; (refine (HI.out _ _ R2.out).mono ?_); rintro e w7 ⟨rfl, hb⟩; (try (replace R1 := Go.Lib.hid (row_next hb R1.out))); (try (replace R2 := Go.Lib.hid (row_next hb R2.out))); (try (replace R3 := Go.Lib.hid (row_next hb R3.out))); (try (replace R4 := Go.Lib.hid (row_next hb R4.out))); (try (replace V := Go.Lib.hid (V.out.next hb))); replace HP := Go.Lib.hid (HP.out.next hb); replace hB := Go.Lib.hid (below_next hB.out hb); clear hb)
      | (go_at_call 9; (refine (HQ.out _ _ _ _ _ (SlK.row R2.out) (SlK.row R3.out)).mono ?_); rintro e w1 ⟨rfl, hb⟩; (try (replace R1 := Go.Lib.hid (row_next hb R1.out))); (try (replace R2 := Go.Lib.hid (row_next hb R2.out))); (try (replace R3 := Go.Lib.hid (row_next hb R3.out))); (try (replace R4 := Go.Lib.hid (row_next hb R4.out))); (try (replace V := Go.Lib.hid (V.out.next hb))); replace HP := Go.Lib.hid (HP.out.next hb); replace hB := Go.Lib.hid (below_next hB.out hb); clear hb))
    go_ret
    exact ⟨rfl, hB.out⟩
theorem svk_any (ss : Nat → Sh) (D n cp : Nat) (w : World) (hn : n ≤ 1048576) (hf : ∀ i, (ss i).fit) (h1 : w.heap[D]? = some (.cells (vrow (n * 266) (stF ss)) 40)) : Calls Try.prog 6 #[.slice (some ⟨D, 0, none⟩) n cp] w fun e w' => e = .returned (.bool (stOk ss n)) ∧ Below w.heap.size w w' := by
  have HH := Go.Lib.hid (lok5_any ss D n cp w hn hf h1)
  go_enter Try.func6, Try.ntmps6
  go_wp2_with (first
    | go_skip
    | (go_at_call 12; (refine HH.out.mono ?_); rintro o w1 ⟨rfl, hb⟩; have hB := Go.Lib.hid hb; clear hb))
  go_ret
  exact ⟨rfl, hB.out⟩
theorem vk_law (ao : Option Addr) (n cap : Nat) (ss : Nat → Sh) (w : World) (hm : n ≤ 9223372036854775807) (hf : ∀ i, (ss i).fit) (hp : StC w ao n ss) : Calls Try.prog 3 #[.slice ao n cap] w fun o w' => o = .returned (.bool true) ∧ Below w.heap.size w w' :=
  vk_walk ao n cap ss (stOk ss n) w hm hp (fun hn D w h => svk_any ss D n n w hn hf h) (fun hn D w h => ivk_any ss D n n w hn hf h)
end Go.Proofs.Ytfhfiaphdgfmnaa
