import Derived.Test.YtfhfiaphdgfmnaaDoorWtJ
import Derived.Test.YtfhfiaphdgfmnaaDoorWtS
import Derived.Test.YtfhfiaphdgfmnaaDoorStZ
import Derived.Test.YtfhfiaphdgfmnaaDoorOpenSk
import Derived.Test.YtfhfiaphdgfmnaaDoorEqSheet
namespace Go.Proofs.YtfhfiaphdgfmnaaDoor
open Go.RowKit
set_option maxRecDepth 100000
set_option linter.unusedVariables false
set_option linter.unusedSimpArgs false
set_option maxRecDepth 100000 in
set_option maxHeartbeats 8000000 in
theorem ws_walk (ao : Option Addr) (n cap : Nat) (ss : Nat → Sh) (ra : Int) (rb : Int) (rc : Int) (e : ErrE) (w : World) (hE : Errs e w) (hm : n ≤ 9223372036854775807) (hp : StC w ao n ss)
    (hS : n ≤ 1048576 → ∀ D w, w.heap[D]? = some (.cells (vrow (n * 266) (stF ss)) 39) → Calls Tryd.prog 34 #[.slice (some ⟨D, 0, none⟩) n n] w fun o w' => o = .returned (.tuple #[.int .i64 ra, .int .i64 rb, .int .i64 rc]) ∧ Below w.heap.size w w')
    (hI : n ≤ 1048576 → ∀ D w, Errs e w → w.heap[D]? = some (.cells (vrow (n * 266) (stF ss)) 39) → Calls Tryd.prog 35 #[.slice (some ⟨D, 0, none⟩) n n] w fun o w' => o = .returned (.tuple #[.int .i64 ra, .int .i64 rb, .int .i64 rc]) ∧ Below w.heap.size w w') :
    Calls Tryd.prog 9 #[.slice ao n cap] w fun o w' => o = .returned (.bool true) ∧ Below w.heap.size w w' := by
  have hB : Hid (Below w.heap.size w w) := Go.Lib.hid (Below.refl _ _)
  have HP := Go.Lib.hid hp
  clear hp
  by_cases hn : n ≤ 1048576
  rotate_left
  · have HZ := Go.Lib.hid fun w => szS_no ao n cap 1048576 hm ⟨by omega, by omega⟩ (by omega) w
    have hneg : decide ((-1 : Int) < 0) = true := by simp
    clear hS hI
    go_enter Tryd.func9, Tryd.ntmps9
    go_wp2_with (first
      | go_skip
      | (go_at_call 11; (refine (HZ.out _).mono ?_); rintro e w1 ⟨rfl, hb⟩; (try (replace R1 := Go.Lib.hid (row_next hb R1.out))); (try (replace R2 := Go.Lib.hid (row_next hb R2.out))); (try (replace R3 := Go.Lib.hid (row_next hb R3.out))); (try (replace R4 := Go.Lib.hid (row_next hb R4.out))); replace HP := Go.Lib.hid (HP.out.next hb); replace hB := Go.Lib.hid (below_next hB.out hb); clear hb))
    go_ret
    exact ⟨rfl, hB.out⟩
  · have HZ := Go.Lib.hid fun w => szS_yes ao n cap 1048576 hm ⟨by omega, by omega⟩ (by omega) w
    have hd : decide ((1048576 : Int) - (n : Int) < 0) = false := by simp; omega
    have HC := Go.Lib.hid fun w h => toStack_new ao n cap ss w hn h
    have HS := Go.Lib.hid (hS hn)
    have HI := Go.Lib.hid (hI hn)
    have HQ := Go.Lib.hid fun v1 v2 L1 L2 w g1 g2 => eqK_any v1 v2 n L1 L2 ss w hn g1 g2
    clear hS hI
    have F0 : Hid True := Go.Lib.hid trivial
    have F1 : Hid True := Go.Lib.hid trivial
    go_enter Tryd.func9, Tryd.ntmps9
    go_wp2_with (first
      | go_skip
      | (go_at_call 11; (refine (HZ.out _).mono ?_); rintro e w1 ⟨rfl, hb⟩; (try (replace R1 := Go.Lib.hid (row_next hb R1.out))); (try (replace R2 := Go.Lib.hid (row_next hb R2.out))); (try (replace R3 := Go.Lib.hid (row_next hb R3.out))); (try (replace R4 := Go.Lib.hid (row_next hb R4.out))); (try (replace V := Go.Lib.hid (V.out.next hb))); replace HP := Go.Lib.hid (HP.out.next hb); replace hB := Go.Lib.hid (below_next hB.out hb); clear hb)
      | (go_at_call 13; replace F0 := F0.out; clear F0; (refine (HC.out _ HP.out).mono ?_); rintro e w2 ⟨rfl, hD, hb⟩; (try (replace R1 := Go.Lib.hid (row_next hb R1.out))); (try (replace R2 := Go.Lib.hid (row_next hb R2.out))); (try (replace R3 := Go.Lib.hid (row_next hb R3.out))); (try (replace R4 := Go.Lib.hid (row_next hb R4.out))); (try (replace V := Go.Lib.hid (V.out.next hb))); replace HP := Go.Lib.hid (HP.out.next hb); replace hB := Go.Lib.hid (below_next hB.out hb); clear hb; have R1 := Go.Lib.hid hD; clear hD)
      | (go_at_call 13; replace F1 := F1.out; clear F1; (refine (HC.out _ HP.out).mono ?_); rintro e w2 ⟨rfl, hD, hb⟩; (try (replace R1 := Go.Lib.hid (row_next hb R1.out))); (try (replace R2 := Go.Lib.hid (row_next hb R2.out))); (try (replace R3 := Go.Lib.hid (row_next hb R3.out))); (try (replace R4 := Go.Lib.hid (row_next hb R4.out))); (try (replace V := Go.Lib.hid (V.out.next hb))); replace HP := Go.Lib.hid (HP.out.next hb); replace hB := Go.Lib.hid (below_next hB.out hb); clear hb; have R2 := Go.Lib.hid hD; clear hD)
      | (go_at_call 13; (refine (HC.out _ HP.out).mono ?_); rintro e w2 ⟨rfl, hD, hb⟩; (try (replace R1 := Go.Lib.hid (row_next hb R1.out))); (try (replace R2 := Go.Lib.hid (row_next hb R2.out))); (try (replace R3 := Go.Lib.hid (row_next hb R3.out))); (try (replace R4 := Go.Lib.hid (row_next hb R4.out))); (try (replace V := Go.Lib.hid (V.out.next hb))); replace HP := Go.Lib.hid (HP.out.next hb); replace hB := Go.Lib.hid (below_next hB.out hb); clear hb; have R3 := Go.Lib.hid hD; clear hD)
      | (go_at_call 34; (refine (HS.out _ _ R1.out).mono ?_); rintro e w5 ⟨rfl, hb⟩; clear R1; (try (replace R1 := Go.Lib.hid (row_next hb R1.out))); (try (replace R2 := Go.Lib.hid (row_next hb R2.out))); (try (replace R3 := Go.Lib.hid (row_next hb R3.out))); (try (replace R4 := Go.Lib.hid (row_next hb R4.out))); (try (replace V := Go.Lib.hid (V.out.next hb))); replace HP := Go.Lib.hid (HP.out.next hb); replace hB := Go.Lib.hid (below_next hB.out hb); clear hb)
      | (go_at_call 35; (refine (HI.out _ _ (hE.next hB.out) R2.out).mono ?_); rintro e w7 ⟨rfl, hb⟩; (try (replace R1 := Go.Lib.hid (row_next hb R1.out))); (try (replace R2 := Go.Lib.hid (row_next hb R2.out))); (try (replace R3 := Go.Lib.hid (row_next hb R3.out))); (try (replace R4 := Go.Lib.hid (row_next hb R4.out))); (try (replace V := Go.Lib.hid (V.out.next hb))); replace HP := Go.Lib.hid (HP.out.next hb); replace hB := Go.Lib.hid (below_next hB.out hb); clear hb)
      | (go_at_call 16; (refine (HQ.out _ _ _ _ _ (SlK.row R2.out) (SlK.row R3.out)).mono ?_); rintro e w1 ⟨rfl, hb⟩; (try (replace R1 := Go.Lib.hid (row_next hb R1.out))); (try (replace R2 := Go.Lib.hid (row_next hb R2.out))); (try (replace R3 := Go.Lib.hid (row_next hb R3.out))); (try (replace R4 := Go.Lib.hid (row_next hb R4.out))); (try (replace V := Go.Lib.hid (V.out.next hb))); replace HP := Go.Lib.hid (HP.out.next hb); replace hB := Go.Lib.hid (below_next hB.out hb); clear hb))
    go_ret
    exact ⟨rfl, hB.out⟩
theorem ws_law (ao : Option Addr) (n cap : Nat) (ss : Nat → Sh) (e : ErrE) (w : World) (hE : Errs e w) (hm : n ≤ 9223372036854775807) (hf : ∀ i, (ss i).fit) (hp : StC w ao n ss) : Calls Tryd.prog 9 #[.slice ao n cap] w fun o w' => o = .returned (.bool true) ∧ Below w.heap.size w w' := by
  cases ho : stOk ss n
  · exact ws_walk ao n cap ss 0 0 1 e w hE hm hp (fun hn D w h => lws_bad ss D n n w hn hf ho h) (fun hn D w hE h => iws_bad ss D n e w hE hn hf ho h)
  · have h6 : n ≤ 6 := by
      have h := ho
      unfold stOk at h
      rw [Bool.and_eq_true] at h
      simpa using h.2
    have hoo : ∀ k, k < n → okI (ss k) = true := fun k hk => by
      have h := ho
      unfold stOk at h
      rw [Bool.and_eq_true] at h
      cases hq : stOne ss k
      · rw [alN_no hq n hk] at h; cases h.1
      · unfold stOne at hq
        rw [Bool.and_eq_true] at hq
        rw [ok_eq (ss k) (hf k)]; exact hq.1
    by_cases h0 : n = 0
    · exact ws_walk ao n cap ss 0 0 6 e w hE hm hp (fun hn D w h => lws_0 ss D n n w hn hf ho h0 h) (fun hn D w hE h => iws_0 ss D n e w hE hn hf ho h0 h)
    · exact ws_walk ao n cap ss _ _ 0 e w hE hm hp (fun hn D w h => lws_ok ss D n n w hn hf ho h6 (by omega) h) (fun hn D w hE h => iws_ok ss D n e w hE hn hf ho h6 (by omega) hoo h)
end Go.Proofs.YtfhfiaphdgfmnaaDoor
