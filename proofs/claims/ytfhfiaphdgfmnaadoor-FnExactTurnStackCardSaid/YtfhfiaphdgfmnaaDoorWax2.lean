import Derived.Test.YtfhfiaphdgfmnaaDoorWax1
namespace Go.Proofs.YtfhfiaphdgfmnaaDoor
open Go.RowKit
set_option maxRecDepth 100000
set_option linter.unusedVariables false
theorem built_zero : Tryd.prog.built 39 [] = some Sh.zero.row := by kernel_rfl
theorem setWax_wax (s : Sh) (y : Nat) (v : Int) : (s.setWax y v).wax y = v := by simp [Sh.setWax]
theorem sh_nat : ∀ x : Nat, x < 8 → IntKind.u8.wrap (2 ^ min (IntKind.u64.wrap (x : Int)).toNat 8) = 2 ^ x % 256 := by decide +kernel
set_option maxHeartbeats 400000 in
theorem withWax_on' (r : Int) (x : Nat) (hx : x < 8) (w : World) : Calls Tryd.prog 109 #[.int .u8 r, .int .i8 x, .bool true] w fun e w' => e = .returned (.int .u8 (onB r x)) ∧ w' = w := by
  have hxI : (x : Int) < 8 := by omega
  go_enter Tryd.func109, Tryd.ntmps109
  go_wp2
  go_ret
  exact ⟨rfl, rfl⟩
set_option maxHeartbeats 400000 in
theorem withWax_off' (r : Int) (x : Nat) (hx : x < 8) (w : World) : Calls Tryd.prog 109 #[.int .u8 r, .int .i8 x, .bool false] w fun e w' => e = .returned (.int .u8 (offB r x)) ∧ w' = w := by
  have hxI : (x : Int) < 8 := by omega
  go_enter Tryd.func109, Tryd.ntmps109
  go_wp2
  go_ret
  exact ⟨rfl, rfl⟩
end Go.Proofs.YtfhfiaphdgfmnaaDoor
