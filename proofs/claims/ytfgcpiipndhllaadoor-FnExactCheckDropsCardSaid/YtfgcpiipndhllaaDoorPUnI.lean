import Derived.Test.YtfgcpiipndhllaaDoorPUnl
import Derived.Test.YtfgcpiipndhllaaDoorBlank
import Derived.Test.YtfgcpiipndhllaaDoorChosP
namespace Go.Proofs.YtfgcpiipndhllaaDoor
open Go.RowKit
set_option maxRecDepth 100000
set_option linter.unusedVariables false
set_option linter.unusedSimpArgs false
theorem eq_zinks (w : World) : (Op.equalIn 9999 56 (.agg (vrow 64 fun _ => .int .u8 0)) (.agg (vrow 64 fun _ => .int .u8 0))).run Tryd.prog w = .ok true w := by kernel_rfl
theorem blank_inks (a c : Int) : (vrow 64 fun i => (blankPic a c).at (2 + i)) = vrow 64 fun _ => .int .u8 0 := vrow_ext _ _ _ fun i _ => (blankPic a c).at_ink1 (2 + i) i rfl
theorem eq_blank (a c a' c' : Int) (w : World) : (Op.equalIn 10000 61 (.agg (blankPic a c).row) (.agg (blankPic a' c').row)).run Tryd.prog w = .ok ((a == a') && (c == c')) w := by
  rw [run_equalIn_struct w 9999 _ _ _ und_pic stood_pic]
  have hl := fields_pic
  have p0 := fun a c w => part_one rw_i8 (n := 66) (f := (blankPic a c).at) (off := 0) (by omega) w
  have p1 := fun a c w => part_one rw_i8 (n := 66) (f := (blankPic a c).at) (off := 1) (by omega) w
  have p2 := fun a c w => part_many rwr_b64 size_b64 cell_b64 (n := 66) (f := (blankPic a c).at) (off := 2) (by omega) w
  simp only [blank_inks, Pic.at_0, Pic.at_1] at p0 p1 p2
  generalize (Tryd.prog.fieldsOf 61).toList = fs at hl ⊢
  rcases fs with _ | ⟨f1, _ | ⟨f2, _ | ⟨f3, _ | ⟨f4, fs⟩⟩⟩⟩ <;> simp only [List.map_cons, List.map_nil, List.cons.injEq, Prod.mk.injEq, List.nil_eq, reduceCtorEq, and_false, and_true, false_and] at hl
  obtain ⟨⟨e1, e2, e3⟩, ⟨e4, e5, e6⟩, e7, e8, e9⟩ := hl
  simp only [Op.eqFields, e1, e2, e3, e4, e5, e6, e7, e8, e9, Sem.run_bind, p0, p1, p2, Result.andThen_ok]
  cases h1 : (a == a') <;> cases h2 : (c == c') <;> simp_all [run_equalIn_int w 9998 22 .i8 .i8 _ _ Tryd.underlying22, eq_zinks, blankPic]
set_option maxHeartbeats 1000000 in
theorem blank_any (p : Pic) (w : World) : Calls Tryd.prog 141 #[.agg p.row] w fun e w' => e = .returned (.agg (blankPic p.wide p.high).row) ∧ Below w.heap.size w w' := by
  have zz := zero_pic
  have P : Hid (((w.alloc (.cells (vrow 66 p.at) 61)).alloc (.cells (vrow 66 Pic.zero.at) 61)).heap[w.heap.size]? = some (.cells (vrow 66 p.at) 61)) := heap_past _ _ _ _ (by simp <;> omega) (heap_at _ _ _ (by simp))
  have Z : Hid (((w.alloc (.cells (vrow 66 p.at) 61)).alloc (.cells (vrow 66 Pic.zero.at) 61)).heap[w.heap.size + 1]? = some (.cells (vrow 66 Pic.zero.at) 61)) := heap_at _ _ _ (by simp)
  have hB : Hid (Below w.heap.size w ((w.alloc (.cells (vrow 66 p.at) 61)).alloc (.cells (vrow 66 Pic.zero.at) 61))) := (((Below.refl w.heap.size w).alloc (by simp <;> omega) _).alloc (by simp <;> omega) _)
  go_enter Tryd.func141, Tryd.ntmps141
  go_wp2_with (first
    | ((with_reducible refine wlAt 4 rfl ?_); refine wpList_ld1 22 _ rfl (by first | exact want_n rfl | exact want_g _ _ _ rfl rfl rfl) (w.heap.size) _ rfl 66 p.at _ rw_i8 P.out (by omega) ?_; rw [Pic.at_0])
    | ((with_reducible refine wlAt 6 rfl ?_); refine wpList_ld1 22 _ rfl (by first | exact want_n rfl | exact want_g _ _ _ rfl rfl rfl) (w.heap.size) _ rfl 66 p.at _ rw_i8 P.out (by omega) ?_; rw [Pic.at_1])
    | ((with_reducible refine wlAt 7 rfl ?_); refine wpList_built rfl 61 [(0, .tmp 4), (1, .tmp 6)] rfl [(0, .int .i8 p.wide), (1, .int .i8 p.high)] (by rfl) _ (built_blank p.wide p.high) ?_)
    | ((with_reducible refine wlOp (.store 61 (.tmp 2) (.tmp 7)) rfl ?_); refine wpList_storeall rfl 61 (.tmp 2) (.tmp 7) rfl (w.heap.size + 1) rfl 66 Pic.zero.at (blankPic p.wide p.high).at rfl 61 size_pic Z.out (fun i _ => Pic.one _ i) ?_))
  exact ret_row Tryd.results141 (w.heap.size + 1) 66 (blankPic p.wide p.high).at 61 _ Tryd.underlying61 rfl size_pic rfl rfl (row_set Z.out _) ⟨rfl, Below_setRow hB.out (by omega) _⟩
end Go.Proofs.YtfgcpiipndhllaaDoor
