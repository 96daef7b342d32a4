import Derived.Deep.RegionHeld3
import Derived.Test.YtfhfiaphdgfmnaaStE
import Derived.Test.YtfhfiaphdgfmnaaSame
namespace Go.Proofs.Ytfhfiaphdgfmnaa
open Go.RowKit
set_option maxRecDepth 100000
set_option linter.unusedVariables false
set_option linter.unusedSimpArgs false
/-- all of the first n -/
def alN (q : Nat → Bool) : Nat → Bool
  | 0 => true
  | k + 1 => alN q k && q k
theorem alN_no {q : Nat → Bool} {k : Nat} (h : q k = false) : ∀ n, k < n → alN q n = false
  | 0, h0 => by omega
  | n + 1, h0 => by
    show (alN q n && q n) = false
    by_cases he : k = n
    · rw [← he, h, Bool.and_false]
    · rw [alN_no h n (by omega)]; rfl
set_option maxHeartbeats 4000000 in
theorem lsk_any (sa sb : Nat → Sh) (D1 D2 n : Nat) (q : Nat → Bool) (hq : ∀ k, ∀ w, (Op.equalIn 10000 40 (.agg (sa k).row) (.agg (sb k).row)).run Try.prog w = .ok (q k) w) (w : World) (hn : n ≤ 1048576) (h1 : w.heap[D1]? = some (.cells (vrow (n * 266) (stF sa)) 40)) (h2 : w.heap[D2]? = some (.cells (vrow (n * 266) (stF sb)) 40)) : Calls Try.prog 10 #[.slice (some ⟨D1, 0, none⟩) n n, .slice (some ⟨D2, 0, none⟩) n n] w fun e w' => e = .returned (.bool (alN q n)) ∧ Below w.heap.size w w' := by
  have R1 := Go.Lib.hid h1
  have R2 := Go.Lib.hid h2
  have hB := Go.Lib.hid (Below.refl w.heap.size w)
  have HQ0 := Go.Lib.hid hq
  clear h1 h2 hq
  go_enter Try.func10, Try.ntmps10
  go_wp2
  go_loopw [5] (fun iv wr => ∃ k : Nat, k ≤ n ∧ iv = .int .i64 k ∧ alN q k = true ∧ wr.heap[D1]? = some (.cells (vrow (n * 266) (stF sa)) 40) ∧ wr.heap[D2]? = some (.cells (vrow (n * 266) (stF sb)) 40) ∧ Below w.heap.size w wr) (fun iv _ => n - (intOf iv).toNat)
  case atStart => exact ⟨0, by omega, rfl, rfl, R1.out, R2.out, hB.out⟩
  case round =>
    clear R1 R2 hB
    obtain ⟨k, hk, rfl, hal, R1, R2, hB⟩ := hrel
    have HAL := Go.Lib.hid hal
    clear hal
    replace R1 := Go.Lib.hid R1; replace R2 := Go.Lib.hid R2; replace hB := Go.Lib.hid hB
    by_cases hlt : k < n
    · have hkI : (k : Int) < (n : Int) := by omega
      have hnl : (n : Int) ≤ 1048576 := by omega
      have hsz := hB.out.size
      have HA := Go.Lib.hid (stF_row sa k)
      have HC := Go.Lib.hid (stF_row sb k)
      have hq := HQ0.out k
      generalize sa k = s1 at HA hq
      generalize sb k = s2 at HC hq
      obtain ⟨b, hb0⟩ : ∃ b, q k = b := ⟨_, rfl⟩
      rw [hb0] at hq
      have HQK := Go.Lib.hid hb0
      clear hb0
      go_wp2
      refine wp_region_still_tail 8 (by kernel_rfl) (by kernel_rfl) ?_
      simp only [List.take_succ_cons, List.take_zero, List.drop_succ_cons, List.drop_zero, World.drew_eq]
      repeat (first
        | (refine wpStill_loadmid rfl 40 (.tmp 19) rfl D1 (k * 266) rfl (n * 266) 266 (stF sa) 40 _ Try.underlying40 rfl size_sheet R1.out (by omega) ?_; rw [HA.out]; (try simp only [Act.put, List.setIfInBounds_toArray, List.set_cons_succ, List.set_cons_zero]))
        | (refine wpStill_loadmid rfl 40 (.tmp 23) rfl D2 (k * 266) rfl (n * 266) 266 (stF sb) 40 _ Try.underlying40 rfl size_sheet R2.out (by omega) ?_; rw [HC.out]; (try simp only [Act.put, List.setIfInBounds_toArray, List.set_cons_succ, List.set_cons_zero]))
        | still_step)
      refine wpStill_nil ?_
      replace R1 := Go.Lib.hid (drwP R1.out); replace R2 := Go.Lib.hid (drwP R2.out); replace hB := Go.Lib.hid (hB.out.drew)
      generalize World.drew _ = W2 at R1 R2 hB ⊢
      cases b
      · go_wp2
        go_ret
        exact ⟨by rw [alN_no HQK.out n hlt]; rfl, hB.out⟩
      · go_wp2
        go_roundw
        case rel => exact ⟨k + 1, by omega, by go_num, by show (alN q k && q k) = true; rw [HAL.out, HQK.out]; rfl, R1.out, R2.out, hB.out⟩
        case measure => simp [intOf]; omega
    · obtain rfl : k = n := by omega
      have hd : decide ((k : Int) < (k : Int)) = false := by simp
      go_wp2
      go_ret
      exact ⟨by rw [HAL.out]; rfl, hB.out⟩
set_option maxHeartbeats 2000000 in
theorem lsk_ne (a1 a2 : Option Addr) (n m c1 c2 : Nat) (w : World) (h : n ≠ m) : Calls Try.prog 10 #[.slice a1 n c1, .slice a2 m c2] w fun e w' => e = .returned (.bool false) ∧ Below w.heap.size w w' := by
  have h1 : ((n : Int) == (m : Int)) = false := by simpa using (by omega : (n : Int) ≠ m)
  have h2 : ((n : Int) != (m : Int)) = true := by simpa using (by omega : (n : Int) ≠ m)
  have h3 : (!((n : Int) == (m : Int))) = true := by rw [h1]; rfl
  have h4 : ¬((n : Int) = (m : Int)) := by omega
  go_enter Try.func10, Try.ntmps10
  go_wp2
  go_ret
  exact ⟨rfl, Below.refl _ _⟩
set_option maxHeartbeats 4000000 in
theorem esk_any (sa sb : Nat → Sh) (D1 D2 n : Nat) (q : Nat → Bool) (hq : ∀ k, ∀ w, (Op.equalIn 10000 40 (.agg (sa k).row) (.agg (sb k).row)).run Try.prog w = .ok (q k) w) (w : World) (hn : n ≤ 1048576) (h1 : w.heap[D1]? = some (.cells (vrow (n * 266) (stF sa)) 40)) (h2 : w.heap[D2]? = some (.cells (vrow (n * 266) (stF sb)) 40)) : Calls Try.prog 16 #[.slice (some ⟨D1, 0, none⟩) n n, .slice (some ⟨D2, 0, none⟩) n n] w fun e w' => e = .returned (.bool (alN q n)) ∧ Below w.heap.size w w' := by
  have R1 := Go.Lib.hid h1
  have R2 := Go.Lib.hid h2
  have hB := Go.Lib.hid (Below.refl w.heap.size w)
  have HQ0 := Go.Lib.hid hq
  clear h1 h2 hq
  go_enter Try.func16, Try.ntmps16
  go_wp2
  go_loopw [13] (fun iv wr => ∃ k : Nat, k ≤ n ∧ iv = .int .i64 k ∧ alN q k = true ∧ wr.heap[D1]? = some (.cells (vrow (n * 266) (stF sa)) 40) ∧ wr.heap[D2]? = some (.cells (vrow (n * 266) (stF sb)) 40) ∧ Below w.heap.size w wr) (fun iv _ => n - (intOf iv).toNat)
  case atStart => exact ⟨0, by omega, rfl, rfl, R1.out, R2.out, hB.out⟩
  case round =>
    clear R1 R2 hB
    obtain ⟨k, hk, rfl, hal, R1, R2, hB⟩ := hrel
    have HAL := Go.Lib.hid hal
    clear hal
    replace R1 := Go.Lib.hid R1; replace R2 := Go.Lib.hid R2; replace hB := Go.Lib.hid hB
    by_cases hlt : k < n
    · have hkI : (k : Int) < (n : Int) := by omega
      have hnl : (n : Int) ≤ 1048576 := by omega
      have hsz := hB.out.size
      have HA := Go.Lib.hid (stF_row sa k)
      have HC := Go.Lib.hid (stF_row sb k)
      have hq := HQ0.out k
      generalize sa k = s1 at HA hq
      generalize sb k = s2 at HC hq
      obtain ⟨b, hb0⟩ : ∃ b, q k = b := ⟨_, rfl⟩
      rw [hb0] at hq
      have HQK := Go.Lib.hid hb0
      clear hb0
      go_wp2
      refine wp_region_still_tail 8 (by kernel_rfl) (by kernel_rfl) ?_
      simp only [List.take_succ_cons, List.take_zero, List.drop_succ_cons, List.drop_zero, World.drew_eq]
      repeat (first
        | (refine wpStill_loadmid rfl 40 (.tmp 18) rfl D1 (k * 266) rfl (n * 266) 266 (stF sa) 40 _ Try.underlying40 rfl size_sheet R1.out (by omega) ?_; rw [HA.out]; (try simp only [Act.put, List.setIfInBounds_toArray, List.set_cons_succ, List.set_cons_zero]))
        | (refine wpStill_loadmid rfl 40 (.tmp 22) rfl D2 (k * 266) rfl (n * 266) 266 (stF sb) 40 _ Try.underlying40 rfl size_sheet R2.out (by omega) ?_; rw [HC.out]; (try simp only [Act.put, List.setIfInBounds_toArray, List.set_cons_succ, List.set_cons_zero]))
        | still_step)
      refine wpStill_nil ?_
      replace R1 := Go.Lib.hid (drwP R1.out); replace R2 := Go.Lib.hid (drwP R2.out); replace hB := Go.Lib.hid (hB.out.drew)
      generalize World.drew _ = W2 at R1 R2 hB ⊢
      cases b
      · go_wp2
        go_ret
        exact ⟨by rw [alN_no HQK.out n hlt]; rfl, hB.out⟩
      · go_wp2
        go_roundw
        case rel => exact ⟨k + 1, by omega, by go_num, by show (alN q k && q k) = true; rw [HAL.out, HQK.out]; rfl, R1.out, R2.out, hB.out⟩
        case measure => simp [intOf]; omega
    · obtain rfl : k = n := by omega
      have hd : decide ((k : Int) < (k : Int)) = false := by simp
      go_wp2
      go_ret
      exact ⟨by rw [HAL.out]; rfl, hB.out⟩
set_option maxHeartbeats 2000000 in
theorem esk_ne (a1 a2 : Option Addr) (n m c1 c2 : Nat) (w : World) (h : n ≠ m) : Calls Try.prog 16 #[.slice a1 n c1, .slice a2 m c2] w fun e w' => e = .returned (.bool false) ∧ Below w.heap.size w w' := by
  have h1 : ((n : Int) == (m : Int)) = false := by simpa using (by omega : (n : Int) ≠ m)
  have h2 : ((n : Int) != (m : Int)) = true := by simpa using (by omega : (n : Int) ≠ m)
  have h3 : (!((n : Int) == (m : Int))) = true := by rw [h1]; rfl
  have h4 : ¬((n : Int) = (m : Int)) := by omega
  go_enter Try.func16, Try.ntmps16
  go_wp2
  go_ret
  exact ⟨rfl, Below.refl _ _⟩
theorem isk_of (v1 v2 : Value) (b : Bool) (w : World) (H : Calls Try.prog 16 #[v1, v2] w fun e w' => e = .returned (.bool b) ∧ Below w.heap.size w w') : Calls Try.prog 11 #[v1, v2] w fun e w' => e = .returned (.bool b) ∧ Below w.heap.size w w' := by
  have HH := Go.Lib.hid H
  clear H
  go_enter Try.func11, Try.ntmps11
  go_wp2_with (first
    | go_skip
    | (go_at_call 16; (refine HH.out.mono ?_); rintro o w1 ⟨rfl, hb⟩; have hB := Go.Lib.hid hb; clear hb))
  go_ret
  exact ⟨rfl, hB.out⟩
end Go.Proofs.Ytfhfiaphdgfmnaa
