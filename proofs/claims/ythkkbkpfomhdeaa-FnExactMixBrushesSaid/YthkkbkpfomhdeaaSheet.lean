import Derived.Test.YthkkbkpfomhdeaaTo
namespace Go.Proofs.Ythkkbkpfomhdeaa
open Go.RowKit
set_option maxRecDepth 100000
def Sh.f1 (s : Sh) := over Sh.zero.at 0 1 fun _ => s.at 0
def Sh.f2 (s : Sh) := over s.f1 1 1 fun _ => s.at 1
def Sh.f3 (s : Sh) := over s.f2 2 64 fun i => .int .i16 (s.wet i)
def Sh.f4 (s : Sh) := over s.f3 66 192 fun i => .int .i16 (s.dye i)
def Sh.f5 (s : Sh) := over s.f4 258 8 fun i => .int .u8 (s.wax i)
theorem Sh.f5_row (s : Sh) : vrow 266 s.f5 = s.row := vrow_ext _ _ _ fun i hi => by
  simp only [Sh.f5, Sh.f4, Sh.f3, Sh.f2, Sh.f1, over, Sh.at]
  by_cases h0 : i = 0
  · subst h0; simp
  · by_cases h1 : i = 1
    · subst h1; simp
    · by_cases h2 : i < 66
      · rw [if_neg (by omega), if_neg (by omega), if_pos (by omega), if_neg h0, if_neg h1, if_pos h2]
      · by_cases h3 : i < 258
        · rw [if_neg (by omega), if_pos (by omega), if_neg h0, if_neg h1, if_neg h2, if_pos h3]
        · rw [if_pos (by omega), if_neg h0, if_neg h1, if_neg h2, if_neg h3]
theorem Sh.f5_one (s : Sh) (i : Nat) : i < 266 → (s.f5 i).oneCell' = true := by
  intro hi
  have h := vrow_get 266 s.f5 i hi
  rw [s.f5_row, vrow_get _ _ _ hi] at h
  rw [← Option.some.inj h]; exact s.one i
end Go.Proofs.Ythkkbkpfomhdeaa
