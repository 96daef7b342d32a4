import Derived.Test.YtfgcpiipndhllaaDoorG1
import Derived.Test.YtfgcpiipndhllaaDoorEqs
namespace Go.Proofs.YtfgcpiipndhllaaDoor
open Go.RowKit
set_option maxRecDepth 100000
set_option linter.unusedVariables false
theorem size_b64 : (Tryd.prog.info? 56).map (·.size) = some 64 := by kernel_rfl
theorem rw_b64 : (Tryd.prog.underlying 56).map (·.isRow) = some true := by kernel_rfl
/-- A PICTURE: its columns, its rows, the number of each of its 64 places. -/
structure Pic where
  wide : Int
  high : Int
  ink : Nat → Int
def Pic.at (p : Pic) : Nat → Value := fun i => if i = 0 then .int .i8 p.wide else if i = 1 then .int .i8 p.high else .int .u8 (p.ink (i - 2))
abbrev Pic.row (p : Pic) : Array Value := vrow 66 p.at
def Pic.zero : Pic := ⟨0, 0, fun _ => 0⟩
theorem Pic.at_0 (p : Pic) : p.at 0 = .int .i8 p.wide := rfl
theorem Pic.at_1 (p : Pic) : p.at 1 = .int .i8 p.high := rfl
theorem Pic.at_ink (p : Pic) : (vrow 64 fun i => p.at (2 + i)) = irow .u8 64 p.ink := vrow_ext _ _ _ fun i _ => by
  unfold Pic.at; rw [if_neg (by omega), if_neg (by omega), show 2 + i - 2 = i by omega]
theorem Pic.at_ink1 (p : Pic) (i k : Nat) (h : i = 2 + k) : p.at i = .int .u8 (p.ink k) := by
  subst h; unfold Pic.at; rw [if_neg (by omega), if_neg (by omega), show 2 + k - 2 = k by omega]
theorem Pic.one (p : Pic) (i : Nat) : (p.at i).oneCell' = true := by
  unfold Pic.at; split
  · rfl
  · split <;> rfl
theorem pic_row (p : Pic) : vrow 66 (fun i => p.at (0 + i)) = vrow 66 p.at := vrow_ext _ _ _ fun i _ => by rw [Nat.zero_add]
theorem size_pic : (Tryd.prog.info? 61).map (·.size) = some 66 := by kernel_rfl
theorem rw_pic : (Tryd.prog.underlying 61).map (·.isRow) = some true := by kernel_rfl
theorem zero_pic : ∀ w, (zeroValue 61).run Tryd.prog w = .ok (.agg Pic.zero.row) w := fun _ => by kernel_rfl
def Pic.f1 (p : Pic) := over Pic.zero.at 0 1 fun _ => p.at 0
def Pic.f2 (p : Pic) := over p.f1 1 1 fun _ => p.at 1
def Pic.f3 (p : Pic) := over p.f2 2 64 fun i => .int .u8 (p.ink i)
theorem Pic.f3_row (p : Pic) : vrow 66 p.f3 = p.row := vrow_ext _ _ _ fun i hi => by
  simp only [Pic.f3, Pic.f2, Pic.f1, over, Pic.at]
  by_cases h0 : i = 0
  · subst h0; simp
  · by_cases h1 : i = 1
    · subst h1; simp
    · rw [if_pos (by omega), if_neg h0, if_neg h1]
theorem Pic.f3_one (p : Pic) (i : Nat) : i < 66 → (p.f3 i).oneCell' = true := by
  intro hi
  have h := vrow_get 66 p.f3 i hi
  rw [p.f3_row, vrow_get _ _ _ hi] at h
  rw [← Option.some.inj h]; exact p.one i
set_option maxHeartbeats 400000 in
theorem toByteA8A8_any (a : Nat → Int) (w : World) :
    Calls Tryd.prog 86 #[.agg (irow .u8 64 a)] w fun e w' => e = .returned (.agg (irow .u8 64 a)) ∧ Below w.heap.size w w' := by
  have zz : ∀ w, (zeroValue 56).run Tryd.prog w = .ok (.agg (irow .u8 64 fun _ => 0)) w := fun _ => by kernel_rfl
  go_enter Tryd.func86, Tryd.ntmps86
  go_wp2
  go_loopw [4] (fun i wr => ∃ k : Nat, k ≤ 8 ∧ i = .int .i64 k ∧ Copying .u8 64 56 a (k * 8) w wr) (fun i _ => 8 - (intOf i).toNat)
  case atStart => exact ⟨0, by omega, rfl, Copying.start _ _ _ _ _⟩
  case round =>
    clear zz
    obtain ⟨k, hk, rfl, hI⟩ := hrel
    by_cases hlt : k < 8
    · have hS := hI.2.1; have HI := Go.Lib.hid hI
      clear hI hk
      go_wp2_with (first
        | (refine wpList_loadmid rfl 29 (.tmp 11) rfl _ (k * 8) rfl 64 8 (fun i => .int .u8 (a i)) 56 _ Tryd.underlying29 rfl size_x8 HI.out.2.2.1 (by omega) ?_)
        | (go_at_call 60; refine (toByteA8_any _ _).mono ?_; rintro e w1 ⟨rfl, hb1⟩; have HB1 := Go.Lib.hid hb1; clear hb1)
        | (refine wpList_storemid rfl 29 (.tmp 14) (.tmp 13) rfl _ (k * 8) rfl 64 8 (fun i => .int .u8 (upto a (k * 8) i)) (fun i => .int .u8 (a (k * 8 + i))) rfl 56 size_x8 (row_below HB1.out (by omega) HI.out.2.2.2.2) (by omega) (fun _ _ => rfl) ?_))
      go_roundw
      case rel =>
        refine ⟨k + 1, by omega, by go_num, ?_⟩
        rw [show (k + 1) * 8 = k * 8 + 8 by omega]
        exact HI.out.step HB1.out
      case measure => simp [intOf]; omega
    · obtain rfl : k = 8 := by omega
      obtain ⟨hB, hS, h0, h1, h2⟩ := hI
      rw [show 8 * 8 = 64 from rfl, upto_full] at h2
      have HB := Go.Lib.hid hB; have H1 := Go.Lib.hid h1; have H2 := Go.Lib.hid h2
      clear hB h0 h1 h2 hk
      go_wp2_with (first
        | (refine wpList_loadall rfl 56 (.tmp 3) rfl _ rfl 64 (fun i => .int .u8 (a i)) 56 _ Tryd.underlying56 rfl size_b64 H2.out ?_)
        | (refine wpList_storeall rfl 56 (.tmp 2) (.tmp 15) rfl _ rfl 64 (fun _ => .int .u8 0) (fun i => .int .u8 (a i)) rfl 56 size_b64 H1.out (fun _ _ => rfl) ?_))
      exact ret_row Tryd.results86 _ 64 (fun i => .int .u8 (a i)) 56 _ Tryd.underlying56 rfl size_b64 rfl rfl (row_set H1.out _) ⟨rfl, Below_setRow HB.out (by omega) _⟩
set_option maxHeartbeats 400000 in
theorem eqByteA8A8_any (a : Nat → Int) (w : World) :
    Calls Tryd.prog 87 #[.agg (irow .u8 64 a), .agg (irow .u8 64 a)] w fun e w' => e = .returned (.bool true) ∧ Below w.heap.size w w' := by
  go_enter Tryd.func87, Tryd.ntmps87
  go_wp2
  go_loopw [5] (fun i wr => ∃ k : Nat, k ≤ 8 ∧ i = .int .i64 k ∧ Twin 64 (fun i => .int .u8 (a i)) 56 w wr) (fun i _ => 8 - (intOf i).toNat)
  case atStart => exact ⟨0, by omega, rfl, Twin.start _ _ _ _⟩
  case round =>
    obtain ⟨k, hk, rfl, hI⟩ := hrel
    by_cases hlt : k < 8
    · have HI := Go.Lib.hid hI.drew1
      clear hk hI
      go_wp2
      refine wp_region_still_tail 6 (by kernel_rfl) (by kernel_rfl) ?_
      simp only [List.take_succ_cons, List.take_zero, List.drop_succ_cons, List.drop_zero, World.drew_eq]
      repeat (first
        | (refine wpStill_loadmid rfl 29 (.tmp 11) rfl _ (k * 8) rfl 64 8 (fun i => .int .u8 (a i)) 56 _ Tryd.underlying29 rfl size_x8 HI.out.2.1 (by omega) ?_)
        | (refine wpStill_loadmid rfl 29 (.tmp 14) rfl _ (k * 8) rfl 64 8 (fun i => .int .u8 (a i)) 56 _ Tryd.underlying29 rfl size_x8 HI.out.2.2 (by omega) ?_)
        | still_step)
      refine wpStill_nil ?_
      go_wp2_with (go_at_call 73; refine (eqByteA8_any _ _).mono ?_; rintro e w1 ⟨rfl, hb1⟩; have HI1 := Go.Lib.hid (HI.out.call hb1 (by simp)); clear hb1)
      go_roundw
      case rel => exact ⟨k + 1, by omega, by go_num, HI1.out⟩
      case measure => simp [intOf]; omega
    · have HI := Go.Lib.hid hI
      obtain rfl : k = 8 := by omega
      clear hI hk
      go_wp2
      go_ret
      exact ⟨rfl, HI.out.1⟩
set_option maxHeartbeats 1000000 in
theorem toPicture_any (p : Pic) (w : World) :
    Calls Tryd.prog 28 #[.agg p.row] w fun e w' => e = .returned (.agg p.row) ∧ Below w.heap.size w w' := by
  have zz := zero_pic
  have P_0 : Hid ((((w.alloc (.cells (vrow 66 p.at) 58)).alloc (.cells (vrow 66 Pic.zero.at) 61)).alloc (.cells (vrow 66 Pic.zero.at) 61)).heap[(w.heap.size)]? = some (.cells (vrow 66 p.at) 58)) := heap_past _ _ _ _ (by simp <;> omega) (heap_past _ _ _ _ (by simp <;> omega) (heap_at _ _ _ (by simp)))
  have R_0 : Hid ((((w.alloc (.cells (vrow 66 p.at) 58)).alloc (.cells (vrow 66 Pic.zero.at) 61)).alloc (.cells (vrow 66 Pic.zero.at) 61)).heap[(w.heap.size + 1)]? = some (.cells (vrow 66 Pic.zero.at) 61)) := heap_past _ _ _ _ (by simp <;> omega) (heap_at _ _ _ (by simp))
  have V_0 : Hid ((((w.alloc (.cells (vrow 66 p.at) 58)).alloc (.cells (vrow 66 Pic.zero.at) 61)).alloc (.cells (vrow 66 Pic.zero.at) 61)).heap[(w.heap.size + 1 + 1)]? = some (.cells (vrow 66 Pic.zero.at) 61)) := heap_at _ _ _ (by simp)
  have B_0 : Hid (Below w.heap.size w (((w.alloc (.cells (vrow 66 p.at) 58)).alloc (.cells (vrow 66 Pic.zero.at) 61)).alloc (.cells (vrow 66 Pic.zero.at) 61))) := ((((Below.refl w.heap.size w).alloc (by simp <;> omega) _).alloc (by simp <;> omega) _).alloc (by simp <;> omega) _)
  go_enter Tryd.func28, Tryd.ntmps28
  go_wp2_with (first
    | (refine wpList_load1 rfl 22 (.tmp 4) rfl _ 0 rfl 66 p.at 58 _ Tryd.underlying22 rfl P_0.out (by omega) ?_)
    | (refine wpList_store1 rfl 22 (.tmp 6) (.tmp 5) rfl _ 0 rfl 66 Pic.zero.at (p.at 0) rfl 61 size_i8 V_0.out (by omega) (p.one _) ?_; change wpList _ _ _ _ _ (World.setRow _ _ (vrow 66 p.f1)); have P_1 := Go.Lib.hid (row_set' (k := (w.heap.size)) (g := (w.heap.size + 1 + 1)) (by omega) P_0.out (vrow 66 p.f1)); have R_1 := Go.Lib.hid (row_set' (k := (w.heap.size + 1)) (g := (w.heap.size + 1 + 1)) (by omega) R_0.out (vrow 66 p.f1)); have V_1 := Go.Lib.hid (row_set V_0.out (vrow 66 p.f1)); have B_1 := Go.Lib.hid (Below_setRow B_0.out (g := (w.heap.size + 1 + 1)) (by omega) (vrow 66 p.f1)); clear B_0 P_0 R_0 V_0)
    | (refine wpList_load1 rfl 22 (.tmp 7) rfl _ 1 rfl 66 p.at 58 _ Tryd.underlying22 rfl P_1.out (by omega) ?_)
    | (refine wpList_store1 rfl 22 (.tmp 9) (.tmp 8) rfl _ 1 rfl 66 p.f1 (p.at 1) rfl 61 size_i8 V_1.out (by omega) (p.one _) ?_; change wpList _ _ _ _ _ (World.setRow _ _ (vrow 66 p.f2)); have P_2 := Go.Lib.hid (row_set' (k := (w.heap.size)) (g := (w.heap.size + 1 + 1)) (by omega) P_1.out (vrow 66 p.f2)); have R_2 := Go.Lib.hid (row_set' (k := (w.heap.size + 1)) (g := (w.heap.size + 1 + 1)) (by omega) R_1.out (vrow 66 p.f2)); have V_2 := Go.Lib.hid (row_set V_1.out (vrow 66 p.f2)); have B_2 := Go.Lib.hid (Below_setRow B_1.out (g := (w.heap.size + 1 + 1)) (by omega) (vrow 66 p.f2)); clear B_1 P_1 R_1 V_1)
    | (refine wpList_loadmid rfl 56 (.tmp 10) rfl _ 2 rfl 66 64 p.at 58 _ Tryd.underlying56 rfl size_b64 P_2.out (by omega) ?_; rw [Pic.at_ink])
    | (go_at_call 86; refine (toByteA8A8_any _ _).mono ?_; rintro e w3 ⟨rfl, hb⟩; have P_3 := Go.Lib.hid (row_call hb (by simp) P_2.out); have R_3 := Go.Lib.hid (row_call hb (by simp) R_2.out); have V_3 := Go.Lib.hid (row_call hb (by simp) V_2.out); have B_3 := Go.Lib.hid (below_call B_2.out hb (by simp)); clear hb B_2 P_2 R_2 V_2)
    | (refine wpList_storemid rfl 56 (.tmp 13) (.tmp 12) rfl _ 2 rfl 66 64 p.f2 (fun i => .int .u8 (p.ink i)) rfl 61 size_b64 V_3.out (by omega) (fun _ _ => rfl) ?_; change wpList _ _ _ _ _ (World.setRow _ _ (vrow 66 p.f3)); have P_4 := Go.Lib.hid (row_set' (k := (w.heap.size)) (g := (w.heap.size + 1 + 1)) (by omega) P_3.out (vrow 66 p.f3)); have R_4 := Go.Lib.hid (row_set' (k := (w.heap.size + 1)) (g := (w.heap.size + 1 + 1)) (by omega) R_3.out (vrow 66 p.f3)); have V_4 := Go.Lib.hid (row_set V_3.out (vrow 66 p.f3)); have B_4 := Go.Lib.hid (Below_setRow B_3.out (g := (w.heap.size + 1 + 1)) (by omega) (vrow 66 p.f3)); clear B_3 P_3 R_3 V_3)
    | (refine wpList_loadall rfl 61 (.tmp 3) rfl _ rfl 66 p.f3 61 _ Tryd.underlying61 rfl size_pic V_4.out ?_)
    | (refine wpList_storeall rfl 61 (.tmp 2) (.tmp 14) rfl _ rfl 66 Pic.zero.at p.f3 rfl 61 size_pic R_4.out (fun i hi => by have := p.f3_one i; exact this hi) ?_; have R_5 := Go.Lib.hid (row_set R_4.out (vrow 66 p.f3)); have B_5 := Go.Lib.hid (Below_setRow B_4.out (g := (w.heap.size + 1)) (by omega) (vrow 66 p.f3)); clear B_4 P_4 R_4 V_4))
  refine ret_row Tryd.results28 _ 66 p.f3 61 _ Tryd.underlying61 rfl size_pic rfl rfl R_5.out ?_
  exact ⟨by rw [p.f3_row], B_5.out⟩
set_option maxHeartbeats 1000000 in
theorem eqPicture_any (p : Pic) (w : World) :
    Calls Tryd.prog 31 #[.agg p.row, .agg p.row] w fun e w' => e = .returned (.bool true) ∧ Below w.heap.size w w' := by
  have P_0 : Hid (((w.alloc (.cells (vrow 66 p.at) 61)).alloc (.cells (vrow 66 p.at) 61)).heap[(w.heap.size)]? = some (.cells (vrow 66 p.at) 61)) := heap_past _ _ _ _ (by simp <;> omega) (heap_at _ _ _ (by simp))
  have R_0 : Hid (((w.alloc (.cells (vrow 66 p.at) 61)).alloc (.cells (vrow 66 p.at) 61)).heap[(w.heap.size + 1)]? = some (.cells (vrow 66 p.at) 61)) := heap_at _ _ _ (by simp)
  have B_0 : Hid (Below w.heap.size w ((w.alloc (.cells (vrow 66 p.at) 61)).alloc (.cells (vrow 66 p.at) 61))) := (((Below.refl w.heap.size w).alloc (by simp <;> omega) _).alloc (by simp <;> omega) _)
  go_enter Tryd.func31, Tryd.ntmps31
  go_wp2_with (first
    | (refine wpList_load1 rfl 22 (.tmp 5) rfl _ 0 rfl 66 p.at 61 _ Tryd.underlying22 rfl P_0.out (by omega) ?_; rw [Pic.at_0])
    | (refine wpList_load1 rfl 22 (.tmp 7) rfl _ 0 rfl 66 p.at 61 _ Tryd.underlying22 rfl R_0.out (by omega) ?_; rw [Pic.at_0])
    | (refine wpList_load1 rfl 22 (.tmp 10) rfl _ 1 rfl 66 p.at 61 _ Tryd.underlying22 rfl P_0.out (by omega) ?_; rw [Pic.at_1])
    | (refine wpList_load1 rfl 22 (.tmp 12) rfl _ 1 rfl 66 p.at 61 _ Tryd.underlying22 rfl R_0.out (by omega) ?_; rw [Pic.at_1])
    | (refine wpList_loadmid rfl 56 (.tmp 15) rfl _ 2 rfl 66 64 p.at 61 _ Tryd.underlying56 rfl size_b64 P_0.out (by omega) ?_; rw [Pic.at_ink])
    | (refine wpList_loadmid rfl 56 (.tmp 17) rfl _ 2 rfl 66 64 p.at 61 _ Tryd.underlying56 rfl size_b64 R_0.out (by omega) ?_; rw [Pic.at_ink])
    | (go_at_call 87; refine (eqByteA8A8_any _ _).mono ?_; rintro e w1 ⟨rfl, hb⟩; have B_1 := Go.Lib.hid (below_call B_0.out hb (by simp)); clear hb B_0 P_0 R_0))
  go_outline
  go_ret
  exact ⟨rfl, B_1.out⟩
end Go.Proofs.YtfgcpiipndhllaaDoor
