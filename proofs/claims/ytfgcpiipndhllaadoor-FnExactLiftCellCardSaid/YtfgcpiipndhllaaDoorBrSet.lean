import Derived.Test.YtfgcpiipndhllaaDoorBrush
namespace Go.Proofs.YtfgcpiipndhllaaDoor
open Go.RowKit
set_option maxRecDepth 100000
set_option linter.unusedVariables false
set_option linter.unusedSimpArgs false
theorem built_zbr : Tryd.prog.built 49 [] = some (vrow 5 Br.zero.at) := by kernel_rfl
def Br.setDye (b : Br) (k : Nat) (v : Int) : Br := ⟨fun i => if i = k then v else b.dye i, b.water, b.share⟩
def Br.setWater (b : Br) (v : Int) : Br := ⟨b.dye, v, b.share⟩
theorem Br.dye_at (b : Br) (k : Nat) (hk : k < 3) (v : Int) : vrow 5 (over b.at k 1 fun _ => .int .i16 v) = vrow 5 (b.setDye k v).at := vrow_ext _ _ _ fun i hi => by
  unfold over Br.at Br.setDye
  by_cases h : i = k
  · subst h; rw [if_pos (by omega), if_pos hk]; dsimp only; rw [if_pos rfl]
  · rw [if_neg (by omega)]; dsimp only
    by_cases h3 : i < 3
    · rw [if_pos h3, if_pos h3, if_neg h]
    · rw [if_neg h3, if_neg h3]
theorem Br.water_at (b : Br) (v : Int) : vrow 5 (over b.at 3 1 fun _ => .int .i16 v) = vrow 5 (b.setWater v).at := vrow_ext _ _ _ fun i hi => by
  unfold over Br.at Br.setWater
  by_cases h : i = 3
  · subst h; simp
  · rw [if_neg (by omega)]; dsimp only
    by_cases h3 : i < 3
    · rw [if_pos h3, if_pos h3]
    · rw [if_neg h3, if_neg h3, if_neg h, if_neg h]
end Go.Proofs.YtfgcpiipndhllaaDoor
