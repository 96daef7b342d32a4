import Derived.Test.YtfgcpiipndhllaaDoorG1
import Derived.Test.YtfgcpiipndhllaaDoorLaid2
import Derived.Test.YtfgcpiipndhllaaDoorImplW
namespace Go.Proofs.YtfgcpiipndhllaaDoor
open Go.RowKit
set_option maxRecDepth 100000
set_option linter.unusedVariables false
def isum (s : Sh) (i : Nat) : Nat → Int
  | 0 => 0
  | c + 1 => isum s i c + s.dye (3 * c + i)
theorem isum_bd (s : Sh) (hf : s.fit) (i : Nat) (hi : i < 3) : ∀ c : Nat, c ≤ 64 → -32768 * (c : Int) ≤ isum s i c ∧ isum s i c ≤ 32767 * (c : Int)
  | 0, _ => by simp [isum]
  | c + 1, hc => by
    have := isum_bd s hf i hi c (by omega)
    have := hf.dye (3 * c + i) (by omega)
    simp only [isum]; omega
/-- the sums, while inks below i have taken cell c -/
def sumsF (s : Sh) (c i m : Nat) : Value := .int .i64 (isum s m (if m < i then c + 1 else c))
theorem sumsF_at (s : Sh) (c i : Nat) : sumsF s c i i = .int .i64 (isum s i c) := by simp [sumsF]
theorem sums_zero (s : Sh) : vrow 3 (fun _ => .int .i64 0) = vrow 3 (sumsF s 0 0) := vrow_ext _ _ _ fun i _ => by simp [sumsF, isum]
theorem sums_step (s : Sh) (c i : Nat) : vrow 3 (over (sumsF s c i) i 1 fun _ => .int .i64 (isum s i c + s.dye (3 * c + i))) = vrow 3 (sumsF s c (i + 1)) := vrow_ext _ _ _ fun m _ => by
  unfold over sumsF
  by_cases h : i ≤ m ∧ m < i + 1
  · obtain rfl : m = i := by omega
    rw [if_pos h, if_pos (by omega)]
    rfl
  · rw [if_neg h]
    by_cases h2 : m < i
    · rw [if_pos h2, if_pos (by omega)]
    · rw [if_neg h2, if_neg (by omega)]
theorem sums_next (s : Sh) (c : Nat) : vrow 3 (sumsF s c 3) = vrow 3 (sumsF s (c + 1) 0) := vrow_ext _ _ _ fun m hm => by simp [sumsF, hm]
theorem sums_one (s : Sh) (c i m : Nat) : (sumsF s c i m).oneCell' = true := rfl
theorem size_a3 : (Tryd.prog.info? 40).map (·.size) = some 3 := by kernel_rfl
theorem built_a3 : Tryd.prog.built 40 [] = some (vrow 3 fun _ => .int .i64 0) := by kernel_rfl
theorem zero_a3 : ∀ w, (zeroValue 40).run Tryd.prog w = .ok (.agg (vrow 3 fun _ => .int .i64 0)) w := fun _ => by kernel_rfl
end Go.Proofs.YtfgcpiipndhllaaDoor
