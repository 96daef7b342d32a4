import Derived.Test.YtfgcpiipndhllaaDoorSame
import Derived.Test.YtfgcpiipndhllaaDoorPic
namespace Go.Proofs.YtfgcpiipndhllaaDoor
open Go.RowKit
set_option maxRecDepth 100000
set_option linter.unusedVariables false
theorem rw_lpic : (Tryd.prog.underlying 58).map (·.isRow) = some true := by kernel_rfl
theorem size_lpic : (Tryd.prog.info? 58).map (·.size) = some 66 := by kernel_rfl
theorem cell_b64 : Tryd.prog.cellsOf 56 = 64 := by kernel_rfl
theorem pcell_x8 : Tryd.prog.cellsOf 29 = 8 := by kernel_rfl
theorem pcell_u8 : Tryd.prog.cellsOf 5 = 1 := by kernel_rfl
theorem psz1_u8 : (Tryd.prog.info? 5).map (·.size) = some 1 := by kernel_rfl
theorem rwr_b64 : (Tryd.prog.underlying 56).map (·.isRow) = some true := by kernel_rfl
theorem prwr_x8 : (Tryd.prog.underlying 29).map (·.isRow) = some true := by kernel_rfl
theorem det_inks (d : Nat) (f g : Nat → Value) (hf : IntRow .u8 64 f) (hg : IntRow .u8 64 g) : Det (Op.equalIn (d + 3) 56 (.agg (vrow 64 f)) (.agg (vrow 64 g))) :=
  det_arr (d + 2) Tryd.underlying56 prwr_x8 size_x8 pcell_x8 rfl fun o ho => det_arr1 d Tryd.underlying29 Tryd.underlying5 psz1_u8 pcell_u8 (hf.drop ho) (hg.drop ho)
theorem at_inks (s : Pic) : IntRow .u8 64 fun i => s.at (2 + i) := fun i hi => ⟨_, s.at_ink1 (2 + i) i rfl⟩
theorem fields_pic : (Tryd.prog.fieldsOf 61).toList.map (fun f => (f.name, f.type, f.offset)) = [("Wide", 22, 0), ("High", 22, 1), ("Inked", 56, 2)] := by kernel_rfl
theorem und_pic : Tryd.prog.underlying 61 = some (.struct (Tryd.prog.fieldsOf 61)) := by kernel_rfl
theorem stood_pic : Tryd.prog.stoodInHeld 61 = false := by kernel_rfl
theorem det_pic (a b : Pic) : Det (Op.equalIn 10000 61 (.agg a.row) (.agg b.row)) := by
  obtain ⟨r, hr⟩ := det_fields 9999 a.row b.row (Tryd.prog.fieldsOf 61).toList (fun f hf => by
    have hm : (f.name, f.type, f.offset) ∈ [("Wide", 22, 0), ("High", 22, 1), ("Inked", 56, 2)] := by
      rw [← fields_pic]; exact List.mem_map_of_mem hf
    simp only [List.mem_cons, List.not_mem_nil, or_false, Prod.mk.injEq] at hm
    rcases hm with ⟨h1, h2, h3⟩ | ⟨h1, h2, h3⟩ | ⟨h1, h2, h3⟩ <;> rw [h1, h2, h3] <;> refine ⟨by decide, ?_⟩
    · exact ⟨_, _, part_one rw_i8 (by omega), part_one rw_i8 (by omega), det_int 9998 Tryd.underlying22 a.wide b.wide⟩
    · exact ⟨_, _, part_one rw_i8 (by omega), part_one rw_i8 (by omega), det_int 9998 Tryd.underlying22 a.high b.high⟩
    · exact ⟨_, _, part_many rwr_b64 size_b64 cell_b64 (by omega), part_many rwr_b64 size_b64 cell_b64 (by omega), det_inks 9996 _ _ (at_inks a) (at_inks b)⟩)
  exact ⟨r, fun w => (run_equalIn_struct w 9999 _ _ _ und_pic stood_pic).trans (hr w)⟩
end Go.Proofs.YtfgcpiipndhllaaDoor
