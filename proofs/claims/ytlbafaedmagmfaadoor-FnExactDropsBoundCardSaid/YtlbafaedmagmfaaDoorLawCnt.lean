import Derived.Test.YtlbafaedmagmfaaDoorPCk
import Derived.Test.YtlbafaedmagmfaaDoorPCntI
import Derived.Test.YtlbafaedmagmfaaDoorSamePic
namespace Go.Proofs.YtlbafaedmagmfaaDoor
open Go.RowKit
set_option maxRecDepth 100000
set_option linter.unusedVariables false
set_option linter.unusedSimpArgs false
theorem pinkS_any (n : Int) (w : World) : Calls Tryd.prog 81 #[.int .i64 n] w fun e w' => e = .returned (.bool (inkB n)) ∧ Below w.heap.size w w' := by
  have HI : Hid (∀ w, Calls Tryd.prog 82 #[.int .i64 n, .int .i64 0, .int .i64 2] w fun e w' => e = .returned (.bool (inkB n)) ∧ Below w.heap.size w w') := Go.Lib.hid fun w => by
    by_cases h : 0 ≤ n ∧ n ≤ 2
    · rw [show inkB n = true by simp [inkB]; omega]; exact in_yes _ _ _ h.1 h.2 w
    · rw [show inkB n = false by simp [inkB]; omega]; exact in_no _ _ _ (by omega) w
  have hB := Go.Lib.hid (Below.refl w.heap.size w)
  go_enter Tryd.func81, Tryd.ntmps81
  go_wp2_with (first
    | go_skip
    | (go_at_call 82; (refine (HI.out _).mono ?_); rintro o w1 ⟨rfl, hb⟩; replace hB := Go.Lib.hid (below_next hB.out hb); clear hb))
  go_ret
  exact ⟨rfl, hB.out⟩
/-- the picture's size, as natural numbers -/
theorem okP_nat {p : Pic} (h : okP p = true) : ∃ a c : Nat, p.wide = a ∧ p.high = c ∧ (1 ≤ a ∧ a ≤ 8) ∧ (1 ≤ c ∧ c ≤ 8) := by
  obtain ⟨h1, h2, h3, h4⟩ := okP_size h
  exact ⟨p.wide.toNat, p.high.toNat, by omega, by omega, by omega, by omega⟩
theorem okP_ink {p : Pic} (hf : p.fit) (h : okP p = true) (i : Nat) (hi : i < 64) : 0 ≤ p.ink i ∧ p.ink i ≤ 3 := by
  have h1 := okP_place h (x := i % 8) (y := i / 8) (by omega) (by omega)
  simp only [placeP, Bool.and_eq_true, decide_eq_true_eq] at h1
  rw [show 8 * (i / 8) + i % 8 = i by omega] at h1
  exact ⟨(hf.ink i hi).1, h1.1⟩
theorem idx_5f (f : Nat → Value) : (∀ w, (Instr.index 190 (.agg (vrow 5 f)) (.int .i64 1)).run Tryd.prog w = .ok (f 1) w) ∧ (∀ w, (Instr.index 190 (.agg (vrow 5 f)) (.int .i64 2)).run Tryd.prog w = .ok (f 2) w) ∧ (∀ w, (Instr.index 190 (.agg (vrow 5 f)) (.int .i64 3)).run Tryd.prog w = .ok (f 3) w) :=
  ⟨fun _ => by kernel_rfl, fun _ => by kernel_rfl, fun _ => by kernel_rfl⟩
theorem idx_5 {p : Pic} (l : List Sp8) (n : Int) (h : inkB n = true) (w : World) : (Instr.index 190 (.agg (vrow 5 (cntF p l))) (.int .i64 (n + 1))).run Tryd.prog w = .ok (.int .i64 (cnt p (n + 1) l)) w := by
  simp only [inkB, Bool.and_eq_true, decide_eq_true_eq] at h
  obtain ⟨i1, i2, i3⟩ := idx_5f (cntF p l)
  have : n = 0 ∨ n = 1 ∨ n = 2 := by omega
  rcases this with rfl | rfl | rfl
  · exact i1 w
  · exact i2 w
  · exact i3 w
end Go.Proofs.YtlbafaedmagmfaaDoor
