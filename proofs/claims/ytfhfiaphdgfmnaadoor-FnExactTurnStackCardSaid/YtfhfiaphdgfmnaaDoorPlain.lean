import Derived.Test.YtfhfiaphdgfmnaaDoorEqSheet
import Derived.Test.YtfhfiaphdgfmnaaDoorG1
namespace Go.Proofs.YtfhfiaphdgfmnaaDoor
open Go.RowKit
set_option maxRecDepth 100000
theorem l00In_yes (n a b : Int) (w : World) (h1 : a ≤ n) (h2 : n ≤ b) : Calls Tryd.prog 40 #[.int .i64 n, .int .i64 a, .int .i64 b] w fun e w' => e = .returned (.bool true) ∧ w = w' := by
  go_enter Tryd.func40, Tryd.ntmps40
  go_wp2
  go_ret
  exact ⟨rfl, rfl⟩
theorem l00In_no (n a b : Int) (w : World) (h : n < a ∨ b < n) : Calls Tryd.prog 40 #[.int .i64 n, .int .i64 a, .int .i64 b] w fun e w' => e = .returned (.bool false) ∧ w = w' := by
  by_cases h1 : n < a
  · clear h
    go_enter Tryd.func40, Tryd.ntmps40
    go_wp2
    go_ret
    exact ⟨rfl, rfl⟩
  · have h2 : decide (n ≤ b) = false := by simp; omega
    clear h
    go_enter Tryd.func40, Tryd.ntmps40
    go_wp2
    go_ret
    exact ⟨by rw [← h2]; rfl, rfl⟩
def plainSh (wide high : Int) : Sh := ⟨wide, high, fun _ => 0, fun _ => 0, fun _ => 0⟩
theorem built_plain (a b : Int) : Tryd.prog.built 39 [(0, .int .i8 a), (1, .int .i8 b)] = some (plainSh a b).row := by kernel_rfl
theorem built_zero : Tryd.prog.built 39 [] = some Sh.zero.row := by kernel_rfl
end Go.Proofs.YtfhfiaphdgfmnaaDoor
