import Derived.Test.YtfhfiaphdgfmnaaTo
namespace Go.Proofs.Ytfhfiaphdgfmnaa
open Go.RowKit
set_option maxRecDepth 100000
theorem size_sheet : (Try.prog.info? 40).map (·.size) = some 266 := by kernel_rfl
theorem size_lsheet : (Try.prog.info? 42).map (·.size) = some 266 := by kernel_rfl
theorem zero_sheet : ∀ w, (zeroValue 40).run Try.prog w = .ok (.agg Sh.zero.row) w := fun _ => by kernel_rfl
def Sh.f1 (s : Sh) := over Sh.zero.at 0 1 fun _ => s.at 0
def Sh.f2 (s : Sh) := over s.f1 1 1 fun _ => s.at 1
def Sh.f3 (s : Sh) := over s.f2 2 64 fun i => .int .i16 (s.wet i)
def Sh.f4 (s : Sh) := over s.f3 66 192 fun i => .int .i16 (s.dye i)
def Sh.f5 (s : Sh) := over s.f4 258 8 fun i => .int .u8 (s.wax i)
theorem Sh.f5_row (s : Sh) : vrow 266 s.f5 = s.row := vrow_ext _ _ _ fun i hi => by
  simp only [Sh.f5, Sh.f4, Sh.f3, Sh.f2, Sh.f1, over, Sh.at]
  by_cases h0 : i = 0
  · subst h0; simp
  · by_cases h1 : i = 1
    · subst h1; simp
    · by_cases h2 : i < 66
      · rw [if_neg (by omega), if_neg (by omega), if_pos (by omega), if_neg h0, if_neg h1, if_pos h2]
      · by_cases h3 : i < 258
        · rw [if_neg (by omega), if_pos (by omega), if_neg h0, if_neg h1, if_neg h2, if_pos h3]
        · rw [if_pos (by omega), if_neg h0, if_neg h1, if_neg h2, if_neg h3]
theorem Sh.f5_one (s : Sh) (i : Nat) : i < 266 → (s.f5 i).oneCell' = true := by
  intro hi
  have h := vrow_get 266 s.f5 i hi
  rw [s.f5_row, vrow_get _ _ _ hi] at h
  rw [← Option.some.inj h]; exact s.one i
set_option maxHeartbeats 1000000 in
theorem toSheet_any (s : Sh) (w : World) :
    Calls Try.prog 13 #[.agg s.row] w fun e w' => e = .returned (.agg s.row) ∧ Below w.heap.size w w' := by
  have zz := zero_sheet
  have P_0 : Hid ((((w.alloc (.cells (vrow 266 s.at) 42)).alloc (.cells (vrow 266 Sh.zero.at) 40)).alloc (.cells (vrow 266 Sh.zero.at) 40)).heap[(w.heap.size)]? = some (.cells (vrow 266 s.at) 42)) := heap_past _ _ _ _ (by simp <;> omega) (heap_past _ _ _ _ (by simp <;> omega) (heap_at _ _ _ (by simp)))
  have R_0 : Hid ((((w.alloc (.cells (vrow 266 s.at) 42)).alloc (.cells (vrow 266 Sh.zero.at) 40)).alloc (.cells (vrow 266 Sh.zero.at) 40)).heap[(w.heap.size + 1)]? = some (.cells (vrow 266 Sh.zero.at) 40)) := heap_past _ _ _ _ (by simp <;> omega) (heap_at _ _ _ (by simp))
  have V_0 : Hid ((((w.alloc (.cells (vrow 266 s.at) 42)).alloc (.cells (vrow 266 Sh.zero.at) 40)).alloc (.cells (vrow 266 Sh.zero.at) 40)).heap[(w.heap.size + 1 + 1)]? = some (.cells (vrow 266 Sh.zero.at) 40)) := heap_at _ _ _ (by simp)
  have B_0 : Hid (Below w.heap.size w (((w.alloc (.cells (vrow 266 s.at) 42)).alloc (.cells (vrow 266 Sh.zero.at) 40)).alloc (.cells (vrow 266 Sh.zero.at) 40))) := ((((Below.refl w.heap.size w).alloc (by simp <;> omega) _).alloc (by simp <;> omega) _).alloc (by simp <;> omega) _)
  go_enter Try.func13, Try.ntmps13
  go_wp2_with (first
    | (refine wpList_load1 rfl 31 (.tmp 4) rfl _ 0 rfl 266 s.at 42 _ Try.underlying31 rfl P_0.out (by omega) ?_)
    | (refine wpList_store1 rfl 31 (.tmp 6) (.tmp 5) rfl _ 0 rfl 266 Sh.zero.at (s.at 0) rfl 40 size_i8 V_0.out (by omega) (s.one _) ?_; change wpList _ _ _ _ _ (World.setRow _ _ (vrow 266 s.f1)); have P_1 := Go.Lib.hid (row_set' (k := (w.heap.size)) (g := (w.heap.size + 1 + 1)) (by omega) P_0.out (vrow 266 s.f1)); have R_1 := Go.Lib.hid (row_set' (k := (w.heap.size + 1)) (g := (w.heap.size + 1 + 1)) (by omega) R_0.out (vrow 266 s.f1)); have V_1 := Go.Lib.hid (row_set V_0.out (vrow 266 s.f1)); have B_1 := Go.Lib.hid (Below_setRow B_0.out (g := (w.heap.size + 1 + 1)) (by omega) (vrow 266 s.f1)); clear B_0 P_0 R_0 V_0)
    | (refine wpList_load1 rfl 31 (.tmp 7) rfl _ 1 rfl 266 s.at 42 _ Try.underlying31 rfl P_1.out (by omega) ?_)
    | (refine wpList_store1 rfl 31 (.tmp 9) (.tmp 8) rfl _ 1 rfl 266 s.f1 (s.at 1) rfl 40 size_i8 V_1.out (by omega) (s.one _) ?_; change wpList _ _ _ _ _ (World.setRow _ _ (vrow 266 s.f2)); have P_2 := Go.Lib.hid (row_set' (k := (w.heap.size)) (g := (w.heap.size + 1 + 1)) (by omega) P_1.out (vrow 266 s.f2)); have R_2 := Go.Lib.hid (row_set' (k := (w.heap.size + 1)) (g := (w.heap.size + 1 + 1)) (by omega) R_1.out (vrow 266 s.f2)); have V_2 := Go.Lib.hid (row_set V_1.out (vrow 266 s.f2)); have B_2 := Go.Lib.hid (Below_setRow B_1.out (g := (w.heap.size + 1 + 1)) (by omega) (vrow 266 s.f2)); clear B_1 P_1 R_1 V_1)
    | (refine wpList_loadmid rfl 34 (.tmp 10) rfl _ 2 rfl 266 64 s.at 42 _ Try.underlying34 rfl size_r64 P_2.out (by omega) ?_; rw [Sh.at_wet])
    | (go_at_call 18; refine (toInt16A8A8_any _ _).mono ?_; rintro e w3 ⟨rfl, hb⟩; have P_3 := Go.Lib.hid (row_call hb (by simp) P_2.out); have R_3 := Go.Lib.hid (row_call hb (by simp) R_2.out); have V_3 := Go.Lib.hid (row_call hb (by simp) V_2.out); have B_3 := Go.Lib.hid (below_call B_2.out hb (by simp)); clear hb B_2 P_2 R_2 V_2)
    | (refine wpList_storemid rfl 34 (.tmp 13) (.tmp 12) rfl _ 2 rfl 266 64 s.f2 (fun i => .int .i16 (s.wet i)) rfl 40 size_r64 V_3.out (by omega) (fun _ _ => rfl) ?_; change wpList _ _ _ _ _ (World.setRow _ _ (vrow 266 s.f3)); have P_4 := Go.Lib.hid (row_set' (k := (w.heap.size)) (g := (w.heap.size + 1 + 1)) (by omega) P_3.out (vrow 266 s.f3)); have R_4 := Go.Lib.hid (row_set' (k := (w.heap.size + 1)) (g := (w.heap.size + 1 + 1)) (by omega) R_3.out (vrow 266 s.f3)); have V_4 := Go.Lib.hid (row_set V_3.out (vrow 266 s.f3)); have B_4 := Go.Lib.hid (Below_setRow B_3.out (g := (w.heap.size + 1 + 1)) (by omega) (vrow 266 s.f3)); clear B_3 P_3 R_3 V_3)
    | (refine wpList_loadmid rfl 37 (.tmp 14) rfl _ 66 rfl 266 192 s.at 42 _ Try.underlying37 rfl size_d192 P_4.out (by omega) ?_; rw [Sh.at_dye])
    | (go_at_call 19; refine (toInt16A3A8A8_any _ _).mono ?_; rintro e w5 ⟨rfl, hb⟩; have P_5 := Go.Lib.hid (row_call hb (by simp) P_4.out); have R_5 := Go.Lib.hid (row_call hb (by simp) R_4.out); have V_5 := Go.Lib.hid (row_call hb (by simp) V_4.out); have B_5 := Go.Lib.hid (below_call B_4.out hb (by simp)); clear hb B_4 P_4 R_4 V_4)
    | (refine wpList_storemid rfl 37 (.tmp 17) (.tmp 16) rfl _ 66 rfl 266 192 s.f3 (fun i => .int .i16 (s.dye i)) rfl 40 size_d192 V_5.out (by omega) (fun _ _ => rfl) ?_; change wpList _ _ _ _ _ (World.setRow _ _ (vrow 266 s.f4)); have P_6 := Go.Lib.hid (row_set' (k := (w.heap.size)) (g := (w.heap.size + 1 + 1)) (by omega) P_5.out (vrow 266 s.f4)); have R_6 := Go.Lib.hid (row_set' (k := (w.heap.size + 1)) (g := (w.heap.size + 1 + 1)) (by omega) R_5.out (vrow 266 s.f4)); have V_6 := Go.Lib.hid (row_set V_5.out (vrow 266 s.f4)); have B_6 := Go.Lib.hid (Below_setRow B_5.out (g := (w.heap.size + 1 + 1)) (by omega) (vrow 266 s.f4)); clear B_5 P_5 R_5 V_5)
    | (refine wpList_loadmid rfl 38 (.tmp 18) rfl _ 258 rfl 266 8 s.at 42 _ Try.underlying38 rfl size_x8 P_6.out (by omega) ?_; rw [Sh.at_wax])
    | (go_at_call 20; refine (toByteA8_any _ _).mono ?_; rintro e w7 ⟨rfl, hb⟩; have P_7 := Go.Lib.hid (row_call hb (by simp) P_6.out); have R_7 := Go.Lib.hid (row_call hb (by simp) R_6.out); have V_7 := Go.Lib.hid (row_call hb (by simp) V_6.out); have B_7 := Go.Lib.hid (below_call B_6.out hb (by simp)); clear hb B_6 P_6 R_6 V_6)
    | (refine wpList_storemid rfl 38 (.tmp 21) (.tmp 20) rfl _ 258 rfl 266 8 s.f4 (fun i => .int .u8 (s.wax i)) rfl 40 size_x8 V_7.out (by omega) (fun _ _ => rfl) ?_; change wpList _ _ _ _ _ (World.setRow _ _ (vrow 266 s.f5)); have P_8 := Go.Lib.hid (row_set' (k := (w.heap.size)) (g := (w.heap.size + 1 + 1)) (by omega) P_7.out (vrow 266 s.f5)); have R_8 := Go.Lib.hid (row_set' (k := (w.heap.size + 1)) (g := (w.heap.size + 1 + 1)) (by omega) R_7.out (vrow 266 s.f5)); have V_8 := Go.Lib.hid (row_set V_7.out (vrow 266 s.f5)); have B_8 := Go.Lib.hid (Below_setRow B_7.out (g := (w.heap.size + 1 + 1)) (by omega) (vrow 266 s.f5)); clear B_7 P_7 R_7 V_7)
    | (refine wpList_loadall rfl 40 (.tmp 3) rfl _ rfl 266 s.f5 40 _ Try.underlying40 rfl size_sheet V_8.out ?_)
    | (refine wpList_storeall rfl 40 (.tmp 2) (.tmp 22) rfl _ rfl 266 Sh.zero.at s.f5 rfl 40 size_sheet R_8.out (fun i hi => by have := s.f5_one i; exact this hi) ?_; have P_9 := Go.Lib.hid (row_set' (k := (w.heap.size)) (g := (w.heap.size + 1)) (by omega) P_8.out (vrow 266 s.f5)); have R_9 := Go.Lib.hid (row_set R_8.out (vrow 266 s.f5)); have V_9 := Go.Lib.hid (row_set' (k := (w.heap.size + 1 + 1)) (g := (w.heap.size + 1)) (by omega) V_8.out (vrow 266 s.f5)); have B_9 := Go.Lib.hid (Below_setRow B_8.out (g := (w.heap.size + 1)) (by omega) (vrow 266 s.f5)); clear B_8 P_8 R_8 V_8))
  refine ret_row Try.results13 _ 266 s.f5 40 _ Try.underlying40 rfl size_sheet rfl rfl R_9.out ?_
  exact ⟨by rw [s.f5_row], B_9.out⟩
end Go.Proofs.Ytfhfiaphdgfmnaa
