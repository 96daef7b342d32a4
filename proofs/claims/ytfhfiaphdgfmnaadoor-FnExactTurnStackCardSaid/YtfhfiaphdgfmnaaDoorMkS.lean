import Derived.Deep.RegionHeld3
import Derived.Test.YtfhfiaphdgfmnaaDoorStE
import Derived.Test.YtfhfiaphdgfmnaaDoorPB1
namespace Go.Proofs.YtfhfiaphdgfmnaaDoor
open Go.RowKit
set_option maxRecDepth 100000
set_option linter.unusedVariables false
set_option linter.unusedSimpArgs false
theorem size_i8k : (Tryd.prog.info? 23).map (·.size) = some 1 := by kernel_rfl
theorem size_u8k : (Tryd.prog.info? 5).map (·.size) = some 1 := by kernel_rfl
set_option maxHeartbeats 4000000 in
theorem markK_any (D n cap : Nat) (f : Nat → Value) (w : World) (hn : n ≤ 1048576) (h1 : w.heap[D]? = some (.cells (vrow (n * 266) f) 39)) : Calls Tryd.prog 17 #[.slice (some ⟨D, 0, none⟩) n cap, .int .i64 1] w fun e w' => e = .returned (.int .i64 (1 + 10 * (n : Int))) ∧ ∃ f', w' = w.setRow D (vrow (n * 266) f') := by
  go_enter Tryd.func17, Tryd.ntmps17
  go_wp2
  go_loopw [1, 5] (fun kv iv wr => ∃ j : Nat, j ≤ n ∧ iv = .int .i64 j ∧ kv = .int .i64 (1 + 10 * (j : Int)) ∧ ∃ f', wr = w.setRow D (vrow (n * 266) f')) (fun _ iv _ => n - (intOf iv).toNat)
  case atStart => exact ⟨0, by omega, rfl, rfl, f, (setRow_selfK h1).symm⟩
  case round =>
    obtain ⟨j, hj, rfl, rfl, f1, rfl⟩ := hrel
    by_cases hlt : j < n
    · have hkI : (j : Int) < n := by omega
      have hnl : (n : Int) ≤ 1048576 := by omega
      have hw : ∀ m : Int, 0 ≤ m → m ≤ 40000000 → IntKind.i64.wrap m = m := fun m h1 h2 => IntWalk.i64_in m (by omega)
      have R := Go.Lib.hid (row_set h1 (vrow (n * 266) f1))
      go_wp2_with (first
        | go_skip
        | ((with_reducible refine wlOp (.store 23 (.tmp 18) (.tmp 16)) rfl ?_); refine wpList_store1 rfl 23 (.tmp 18) (.tmp 16) rfl D (j * 266) rfl (n * 266) _ _ rfl 39 size_i8k R.out (by omega) rfl ?_; rw [setRow_twiceK]; generalize over _ _ _ _ = f2; replace R := Go.Lib.hid (row_set h1 (vrow (n * 266) f2)))
        | ((with_reducible refine wlOp (.store 23 (.tmp 26) (.tmp 24)) rfl ?_); refine wpList_store1 rfl 23 (.tmp 26) (.tmp 24) rfl D (j * 266 + 1) rfl (n * 266) _ _ rfl 39 size_i8k R.out (by omega) rfl ?_; rw [setRow_twiceK]; generalize over _ _ _ _ = f2; replace R := Go.Lib.hid (row_set h1 (vrow (n * 266) f2))))
      clear R
      go_loopw [1, 6] (fun kv mv wz => ∃ m : Nat, m ≤ 8 ∧ mv = .int .i64 m ∧ kv = .int .i64 (3 + 10 * (j : Int) + (m : Int)) ∧ ∃ f', wz = w.setRow D (vrow (n * 266) f')) (fun _ mv _ => 8 - (intOf mv).toNat)
      case atStart => exact ⟨0, by omega, rfl, by go_num, _, rfl⟩
      case round =>
        obtain ⟨m, hm, rfl, rfl, f3, rfl⟩ := hrel
        by_cases hlm : m < 8
        · have hmI : (m : Int) < 8 := by omega
          have R := Go.Lib.hid (row_set h1 (vrow (n * 266) f3))
          go_wp2_with (first
            | go_skip
            | ((with_reducible refine wlOp (.store 5 (.tmp 40) (.tmp 37)) rfl ?_); refine wpList_store1 rfl 5 (.tmp 40) (.tmp 37) rfl D (j * 266 + 258 + m) rfl (n * 266) _ _ rfl 39 size_u8k R.out (by omega) rfl ?_; rw [setRow_twiceK]; generalize over _ _ _ _ = f2; replace R := Go.Lib.hid (row_set h1 (vrow (n * 266) f2))))
          go_roundw
          case rel => exact ⟨m + 1, by omega, by go_num, by go_num, _, rfl⟩
          case measure => simp [intOf]; omega
        · obtain rfl : m = 8 := by omega
          go_wp2
          go_roundw
          case rel => exact ⟨j + 1, by omega, by go_num, by go_num, _, rfl⟩
          case measure => simp [intOf]; omega
    · obtain rfl : j = n := by omega
      have hd : decide ((j : Int) < (j : Int)) = false := by simp
      go_wp2
      go_ret
      exact ⟨rfl, _, rfl⟩
end Go.Proofs.YtfhfiaphdgfmnaaDoor
