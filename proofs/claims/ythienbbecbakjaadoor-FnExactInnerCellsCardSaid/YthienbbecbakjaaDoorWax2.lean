import Derived.Test.YthienbbecbakjaaDoorWax1
namespace Go.Proofs.YthienbbecbakjaaDoor
open Go.RowKit
set_option maxRecDepth 100000
set_option linter.unusedVariables false
theorem built_zero : Tryd.prog.built 37 [] = some Sh.zero.row := by kernel_rfl
theorem setWax_wax (s : Sh) (y : Nat) (v : Int) : (s.setWax y v).wax y = v := by simp [Sh.setWax]
theorem sh_nat : ∀ x : Nat, x < 8 → IntKind.u8.wrap (2 ^ min (IntKind.u64.wrap (x : Int)).toNat 8) = 2 ^ x % 256 := by decide +kernel
end Go.Proofs.YthienbbecbakjaaDoor
