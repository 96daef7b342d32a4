import Derived.Laws.AppendOwn
import Derived.Laws.Append
import Derived.OwnWalk
import Derived.Deep.AppendLies
import Derived.Deep.RegionHeld3
import Derived.Test.YtianedkknlggmaaPathK
namespace Go.Proofs.Ytianedkknlggmaa
open Go.RowKit
set_option maxRecDepth 100000
set_option linter.unusedVariables false
set_option linter.unusedSimpArgs false
theorem info_spotP : (Try.prog.info? 93).map (fun i => (i.zero, i.size, i.bytes)) = some (some (.agg #[.int .i8 0, .int .i8 0]), 2, 2) := by kernel_rfl
theorem sp2_rowR (a b : Int) : vrow 2 (spAt a b) = #[.int .i8 a, .int .i8 b] := rfl
/-- the values of a path from its end, k spots of n -/
def revV (px py : Nat → Int) (n k : Nat) : List Value := (List.range k).flatMap fun i => [.int .i8 (px (n - 1 - i)), .int .i8 (py (n - 1 - i))]
theorem revV_succ (px py : Nat → Int) (n k : Nat) : revV px py n (k + 1) = revV px py n k ++ [.int .i8 (px (n - 1 - k)), .int .i8 (py (n - 1 - k))] := by
  unfold revV; rw [List.range_succ, List.flatMap_append]; simp
set_option maxHeartbeats 4000000 in
theorem specTurn_any (D n : Nat) (px py : Nat → Int) (w : World) (hn : n ≤ 1048576) (h2 : w.heap[D]? = some (.cells (vrow (n * 2) (spf px py)) 93)) : Calls Try.prog 26 #[.slice (some ⟨D, 0, none⟩) n n] w fun e w' => ∃ v, e = .returned v ∧ w'.ownsRow w.heap.size 93 2 v n (revV px py n n) ∧ Below w.heap.size w w' := by
  obtain ⟨i0, hi, hz0, hz1, hz2⟩ := info_parts info_spotP
  have hDl := row_lt h2
  have hw : ∀ m : Int, -1 ≤ m → m ≤ 4000000 → IntKind.i64.wrap m = m := fun m h1 h2 => IntWalk.i64_in m (by omega)
  go_enter Try.func26, Try.ntmps26
  go_wp2
  have P0 : (w.alloc (.cells #[] 93)).heap[D]? = some (.cells (vrow (n * 2) (spf px py)) 93) := heap_past _ _ _ _ hDl h2
  have O0 : (w.alloc (.cells #[] 93)).ownsRow w.heap.size 93 2 (.slice (some ⟨w.heap.size, 0, none⟩) 0 0) 0 [] := World.ownsRow_made w #[] 0 (Nat.le_refl _) (by decide) rfl
  have B0 : Below w.heap.size w (w.alloc (.cells #[] 93)) := (Below.refl _ _).alloc (Nat.le_refl _) _
  generalize hW : w.alloc _ = W0 at P0 O0 B0 ⊢
  clear hW h2
  go_loopw [3, 4] (fun v iv wr => ∃ k : Nat, k ≤ n ∧ iv = .int .i64 ((n : Int) - 1 - k) ∧ wr.ownsRow w.heap.size 93 2 v k (revV px py n k) ∧ Below w.heap.size w wr ∧ wr.heap[D]? = some (.cells (vrow (n * 2) (spf px py)) 93)) (fun _ iv _ => (intOf iv + 1).toNat)
  case atStart => exact ⟨0, by omega, by first | rfl | simp, O0, B0, P0⟩
  case round =>
    clear P0 O0 B0
    obtain ⟨k, hk, rfl, hO, hB0, hP⟩ := hrel
    have O := Go.Lib.hid hO; have hB := Go.Lib.hid hB0; have P := Go.Lib.hid hP
    clear hO hP hB0
    have hsz := hB.out.size
    by_cases hlt : k < n
    · obtain ⟨m, hm⟩ : ∃ m, m < n ∧ n - 1 - k = m ∧ k + 1 + m = n := ⟨n - k - 1, by omega, by omega, by omega⟩
      obtain ⟨hmn, hm1, hm2⟩ := hm
      have HM2 := Go.Lib.hid hm2
      have em : ((n : Int) - 1 - k) = m := by omega
      rw [em]
      have hge : decide ((0 : Int) ≤ (m : Int)) = true := by simp
      have hix : (m : Int) < (n : Int) := by omega
      have HM1 := Go.Lib.hid hm1
      clear em hm1 hm2
      go_wp2_with (first
        | go_skip
        | ((with_reducible refine wlAt 17 rfl ?_); refine wpList_loadmid rfl 93 (.tmp 16) rfl D (m * 2) rfl (n * 2) 2 (spf px py) 93 _ Try.underlying93 rfl size_spot P.out (by omega) ?_; rw [spf_two, sp2_rowR])
        | (at_builtin; refine wpList_append_own _ rfl (.tmp 13) (.tmp 18) 45 rfl w.heap.size 93 i0 (.agg #[.int .i8 0, .int .i8 0]) 2 2 Try.underlying45 hi hz0 hz1 hz2 rfl (by decide) _ _ _ rfl (O.out.alloc _) ⟨wr.heap.size, 0, none⟩ 1 1 [.int .i8 (px m), .int .i8 (py m)] rfl rfl (World.news_of_block (heap_at _ _ _ rfl)) (by simp [Value.oneCell']) (by simp only [maxLen]; omega) (by omega) (by simp; omega) ?_; intro v' w1 hown' hgrow _))
      have B1 : Below w.heap.size w w1 := (hB.out.alloc hsz _).grown hgrow (by simp; omega) (fun q hq => (O.out.lt q hq).1)
      have P1 : w1.heap[D]? = some (.cells (vrow (n * 2) (spf px py)) 93) := (hgrow.block D (by have := row_lt P.out; simp; omega) (fun e => by have := (O.out.lt D e.symm).1; omega)).trans (heap_past _ _ _ _ (row_lt P.out) P.out)
      have e1 : revV px py n (k + 1) = revV px py n k ++ [.int .i8 (px m), .int .i8 (py m)] := by rw [revV_succ, HM1.out]
      go_roundw
      case rel => exact ⟨k + 1, by omega, by have h := HM2.out; congr 1; omega, by rw [e1]; exact hown', B1, P1⟩
      case measure => simp [intOf]
    · obtain rfl : k = n := by omega
      have hge : decide ((0 : Int) ≤ ((k : Int) - 1 - k)) = false := by simp; omega
      go_wp2
      go_ret
      exact ⟨_, rfl, O.out, hB.out⟩
end Go.Proofs.Ytianedkknlggmaa
