import Derived.Test.YtdigbikldkkhpaaPic
import Derived.Test.YtdigbikldkkhpaaOpen
namespace Go.Proofs.Ytdigbikldkkhpaa
open Go.ChangeShapes Go.WideShapes Go.ChangeAt Go.RowKit
set_option maxRecDepth 100000
/-- the numbers of a picture fit their kinds -/
structure Pic.fit (p : Pic) : Prop where
  wide : -128 ≤ p.wide ∧ p.wide ≤ 127
  high : -128 ≤ p.high ∧ p.high ≤ 127
  ink : ∀ i, i < 64 → 0 ≤ p.ink i ∧ p.ink i ≤ 255
theorem pwf_i8 {n : Int} (h : (Lit.int .i8 n).wf = true) : -128 ≤ n ∧ n ≤ 127 := by simp [Lit.wf, IntKind.min, IntKind.max, IntKind.bits, IntKind.signed] at h; omega
theorem pwf_u8 {n : Int} (h : (Lit.int .u8 n).wf = true) : 0 ≤ n ∧ n ≤ 255 := by simp [Lit.wf, IntKind.min, IntKind.max, IntKind.bits, IntKind.signed] at h; omega
theorem pc22 : Try.prog.cellsOf 24 = 1 := by kernel_rfl
theorem pc5 : Try.prog.cellsOf 5 = 1 := by kernel_rfl
theorem pints_x8 : Ints Try.prog .u8 8 22 := Ints.array Try.underlying22 pc5 (by kernel_rfl) (by omega) (Ints.one Try.underlying5)
theorem ints_b64 : Ints Try.prog .u8 64 25 := Ints.array Try.underlying25 (M := 8) (by kernel_rfl) (by kernel_rfl) (by omega) pints_x8
end Go.Proofs.Ytdigbikldkkhpaa
