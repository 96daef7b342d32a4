import Derived.Test.YtdigbikldkkhpaaG1
import Derived.Test.YtdigbikldkkhpaaEqs
namespace Go.Proofs.Ytdigbikldkkhpaa
open Go.RowKit
set_option maxRecDepth 100000
set_option linter.unusedVariables false
theorem size_b64 : (Try.prog.info? 25).map (·.size) = some 64 := by kernel_rfl
theorem rw_b64 : (Try.prog.underlying 25).map (·.isRow) = some true := by kernel_rfl
/-- A PICTURE: its columns, its rows, the number of each of its 64 places. -/
structure Pic where
  wide : Int
  high : Int
  ink : Nat → Int
def Pic.at (p : Pic) : Nat → Value := fun i => if i = 0 then .int .i8 p.wide else if i = 1 then .int .i8 p.high else .int .u8 (p.ink (i - 2))
abbrev Pic.row (p : Pic) : Array Value := vrow 66 p.at
def Pic.zero : Pic := ⟨0, 0, fun _ => 0⟩
theorem Pic.at_0 (p : Pic) : p.at 0 = .int .i8 p.wide := rfl
theorem Pic.at_1 (p : Pic) : p.at 1 = .int .i8 p.high := rfl
theorem Pic.at_ink (p : Pic) : (vrow 64 fun i => p.at (2 + i)) = irow .u8 64 p.ink := vrow_ext _ _ _ fun i _ => by
  unfold Pic.at; rw [if_neg (by omega), if_neg (by omega), show 2 + i - 2 = i by omega]
theorem Pic.at_ink1 (p : Pic) (i k : Nat) (h : i = 2 + k) : p.at i = .int .u8 (p.ink k) := by
  subst h; unfold Pic.at; rw [if_neg (by omega), if_neg (by omega), show 2 + k - 2 = k by omega]
theorem Pic.one (p : Pic) (i : Nat) : (p.at i).oneCell' = true := by
  unfold Pic.at; split
  · rfl
  · split <;> rfl
theorem pic_row (p : Pic) : vrow 66 (fun i => p.at (0 + i)) = vrow 66 p.at := vrow_ext _ _ _ fun i _ => by rw [Nat.zero_add]
theorem size_pic : (Try.prog.info? 27).map (·.size) = some 66 := by kernel_rfl
theorem rw_pic : (Try.prog.underlying 27).map (·.isRow) = some true := by kernel_rfl
theorem zero_pic : ∀ w, (zeroValue 27).run Try.prog w = .ok (.agg Pic.zero.row) w := fun _ => by kernel_rfl
def Pic.f1 (p : Pic) := over Pic.zero.at 0 1 fun _ => p.at 0
def Pic.f2 (p : Pic) := over p.f1 1 1 fun _ => p.at 1
def Pic.f3 (p : Pic) := over p.f2 2 64 fun i => .int .u8 (p.ink i)
theorem Pic.f3_row (p : Pic) : vrow 66 p.f3 = p.row := vrow_ext _ _ _ fun i hi => by
  simp only [Pic.f3, Pic.f2, Pic.f1, over, Pic.at]
  by_cases h0 : i = 0
  · subst h0; simp
  · by_cases h1 : i = 1
    · subst h1; simp
    · rw [if_pos (by omega), if_neg h0, if_neg h1]
theorem Pic.f3_one (p : Pic) (i : Nat) : i < 66 → (p.f3 i).oneCell' = true := by
  intro hi
  have h := vrow_get 66 p.f3 i hi
  rw [p.f3_row, vrow_get _ _ _ hi] at h
  rw [← Option.some.inj h]; exact p.one i
set_option maxHeartbeats 400000 in
theorem eqByteA8A8_any (a : Nat → Int) (w : World) :
    Calls Try.prog 14 #[.agg (irow .u8 64 a), .agg (irow .u8 64 a)] w fun e w' => e = .returned (.bool true) ∧ Below w.heap.size w w' := by
  go_enter Try.func14, Try.ntmps14
  go_wp2
  go_loopw [5] (fun i wr => ∃ k : Nat, k ≤ 8 ∧ i = .int .i64 k ∧ Twin 64 (fun i => .int .u8 (a i)) 25 w wr) (fun i _ => 8 - (intOf i).toNat)
  case atStart => exact ⟨0, by omega, rfl, Twin.start _ _ _ _⟩
  case round =>
    obtain ⟨k, hk, rfl, hI⟩ := hrel
    by_cases hlt : k < 8
    · have HI := Go.Lib.hid hI.drew1
      clear hk hI
      go_wp2
      refine wp_region_still_tail 6 (by kernel_rfl) (by kernel_rfl) ?_
      simp only [List.take_succ_cons, List.take_zero, List.drop_succ_cons, List.drop_zero, World.drew_eq]
      repeat (first
        | (refine wpStill_loadmid rfl 22 (.tmp 11) rfl _ (k * 8) rfl 64 8 (fun i => .int .u8 (a i)) 25 _ Try.underlying22 rfl size_x8 HI.out.2.1 (by omega) ?_)
        | (refine wpStill_loadmid rfl 22 (.tmp 14) rfl _ (k * 8) rfl 64 8 (fun i => .int .u8 (a i)) 25 _ Try.underlying22 rfl size_x8 HI.out.2.2 (by omega) ?_)
        | still_step)
      refine wpStill_nil ?_
      go_wp2_with (go_at_call 22; refine (eqByteA8_any _ _).mono ?_; rintro e w1 ⟨rfl, hb1⟩; have HI1 := Go.Lib.hid (HI.out.call hb1 (by simp)); clear hb1)
      go_roundw
      case rel => exact ⟨k + 1, by omega, by go_num, HI1.out⟩
      case measure => simp [intOf]; omega
    · have HI := Go.Lib.hid hI
      obtain rfl : k = 8 := by omega
      clear hI hk
      go_wp2
      go_ret
      exact ⟨rfl, HI.out.1⟩
set_option maxHeartbeats 1000000 in
theorem eqPicture_any (p : Pic) (w : World) :
    Calls Try.prog 7 #[.agg p.row, .agg p.row] w fun e w' => e = .returned (.bool true) ∧ Below w.heap.size w w' := by
  have P_0 : Hid (((w.alloc (.cells (vrow 66 p.at) 27)).alloc (.cells (vrow 66 p.at) 27)).heap[(w.heap.size)]? = some (.cells (vrow 66 p.at) 27)) := heap_past _ _ _ _ (by simp <;> omega) (heap_at _ _ _ (by simp))
  have R_0 : Hid (((w.alloc (.cells (vrow 66 p.at) 27)).alloc (.cells (vrow 66 p.at) 27)).heap[(w.heap.size + 1)]? = some (.cells (vrow 66 p.at) 27)) := heap_at _ _ _ (by simp)
  have B_0 : Hid (Below w.heap.size w ((w.alloc (.cells (vrow 66 p.at) 27)).alloc (.cells (vrow 66 p.at) 27))) := (((Below.refl w.heap.size w).alloc (by simp <;> omega) _).alloc (by simp <;> omega) _)
  go_enter Try.func7, Try.ntmps7
  go_wp2_with (first
    | (refine wpList_load1 rfl 24 (.tmp 5) rfl _ 0 rfl 66 p.at 27 _ Try.underlying24 rfl P_0.out (by omega) ?_; rw [Pic.at_0])
    | (refine wpList_load1 rfl 24 (.tmp 7) rfl _ 0 rfl 66 p.at 27 _ Try.underlying24 rfl R_0.out (by omega) ?_; rw [Pic.at_0])
    | (refine wpList_load1 rfl 24 (.tmp 10) rfl _ 1 rfl 66 p.at 27 _ Try.underlying24 rfl P_0.out (by omega) ?_; rw [Pic.at_1])
    | (refine wpList_load1 rfl 24 (.tmp 12) rfl _ 1 rfl 66 p.at 27 _ Try.underlying24 rfl R_0.out (by omega) ?_; rw [Pic.at_1])
    | (refine wpList_loadmid rfl 25 (.tmp 15) rfl _ 2 rfl 66 64 p.at 27 _ Try.underlying25 rfl size_b64 P_0.out (by omega) ?_; rw [Pic.at_ink])
    | (refine wpList_loadmid rfl 25 (.tmp 17) rfl _ 2 rfl 66 64 p.at 27 _ Try.underlying25 rfl size_b64 R_0.out (by omega) ?_; rw [Pic.at_ink])
    | (go_at_call 14; refine (eqByteA8A8_any _ _).mono ?_; rintro e w1 ⟨rfl, hb⟩; have B_1 := Go.Lib.hid (below_call B_0.out hb (by simp)); clear hb B_0 P_0 R_0))
  go_outline
  go_ret
  exact ⟨rfl, B_1.out⟩
end Go.Proofs.Ytdigbikldkkhpaa
