import Derived.Test.YthkkbkpfomhdeaaBrOk
import Derived.Test.YthkkbkpfomhdeaaOpenBr
namespace Go.Proofs.Ythkkbkpfomhdeaa
open Go.RowKit
set_option maxRecDepth 100000
set_option linter.unusedVariables false
set_option linter.unusedSimpArgs false
theorem specVB (b : Br) (hf : b.fit) (w : World) : Calls Try.prog 12 #[.agg b.row] w fun e w' => e = .returned (.bool b.ok) ∧ Below w.heap.size w w' := by
  have HO := Go.Lib.hid fun n w hs => lok_any b n w hf hs
  have P : Hid ((w.alloc (.cells (vrow 5 b.at) 27)).heap[w.heap.size]? = some (.cells (vrow 5 b.at) 27)) := heap_at _ _ _ (by simp)
  have hB : Hid (Below w.heap.size w (w.alloc (.cells (vrow 5 b.at) 27))) := ((Below.refl w.heap.size w).alloc (by simp <;> omega) _)
  go_enter Try.func12, Try.ntmps12
  go_wp2_with (first
    | go_skip
    | (go_at_call 14; (refine (HO.out _ _ P.out).mono ?_); rintro o w1 ⟨rfl, hb⟩; replace P := Go.Lib.hid (row_next hb P.out); replace hB := Go.Lib.hid (below_next hB.out hb); clear hb))
  go_ret
  exact ⟨rfl, hB.out⟩
theorem specLo (b : Br) (hf : b.fit) (w : World) : Calls Try.prog 10 #[.agg b.row] w fun e w' => e = .returned (.int .i64 b.sum) ∧ Below w.heap.size w w' := by
  have HO := Go.Lib.hid fun n w hs => lload_any b n w hf hs
  have P : Hid ((w.alloc (.cells (vrow 5 b.at) 27)).heap[w.heap.size]? = some (.cells (vrow 5 b.at) 27)) := heap_at _ _ _ (by simp)
  have hB : Hid (Below w.heap.size w (w.alloc (.cells (vrow 5 b.at) 27))) := ((Below.refl w.heap.size w).alloc (by simp <;> omega) _)
  go_enter Try.func10, Try.ntmps10
  go_wp2_with (first
    | go_skip
    | (go_at_call 18; (refine (HO.out _ _ P.out).mono ?_); rintro o w1 ⟨rfl, hb⟩; replace P := Go.Lib.hid (row_next hb P.out); replace hB := Go.Lib.hid (below_next hB.out hb); clear hb))
  go_ret
  exact ⟨rfl, hB.out⟩
theorem implLo (b : Br) (hf : b.fit) (w : World) : Calls Try.prog 11 #[.agg b.row] w fun e w' => e = .returned (.int .i64 b.sum) ∧ Below w.heap.size w w' := by
  have HO := Go.Lib.hid fun w => bload_any b hf w
  have P : Hid ((w.alloc (.cells (vrow 5 b.at) 27)).heap[w.heap.size]? = some (.cells (vrow 5 b.at) 27)) := heap_at _ _ _ (by simp)
  have hB : Hid (Below w.heap.size w (w.alloc (.cells (vrow 5 b.at) 27))) := ((Below.refl w.heap.size w).alloc (by simp <;> omega) _)
  go_enter Try.func11, Try.ntmps11
  go_wp2_with (first
    | go_skip
    | ((with_reducible refine wlAt 3 rfl ?_); refine wpList_loadall rfl 27 (.tmp 1) rfl _ rfl 5 b.at 27 _ Try.underlying27 rfl size_br P.out ?_)
    | (go_at_call 19; (refine (HO.out _).mono ?_); rintro o w1 ⟨rfl, hb⟩; replace P := Go.Lib.hid (row_next hb P.out); replace hB := Go.Lib.hid (below_next hB.out hb); clear hb))
  go_ret
  exact ⟨rfl, hB.out⟩
theorem vb_law (b : Br) (w : World) (hf : b.fit) : Calls Try.prog 5 #[.agg b.row] w fun o w' => o = .returned (.bool true) ∧ Below w.heap.size w w' := by
  have HS := Go.Lib.hid fun w => specVB b hf w
  have HI := Go.Lib.hid fun w => vbrush_any b hf w
  have P : Hid ((w.alloc (.cells (vrow 5 b.at) 26)).heap[w.heap.size]? = some (.cells (vrow 5 b.at) 26)) := heap_at _ _ _ (by simp)
  have hB : Hid (Below w.heap.size w (w.alloc (.cells (vrow 5 b.at) 26))) := ((Below.refl w.heap.size w).alloc (by simp <;> omega) _)
  clear hf
  generalize b.ok = v at *
  go_enter Try.func5, Try.ntmps5
  cases v
  all_goals
    go_wp2_with (first
      | go_skip
      | ((with_reducible refine wlAt 5 rfl ?_); refine wpList_loadall rfl 26 (.tmp 1) rfl _ rfl 5 b.at 26 _ Try.underlying26 rfl size_lbr P.out ?_)
      | ((with_reducible refine wlAt 8 rfl ?_); refine wpList_loadall rfl 26 (.tmp 1) rfl _ rfl 5 b.at 26 _ Try.underlying26 rfl size_lbr P.out ?_)
      | (go_at_call 7; (refine (toBrush_any b _).mono ?_); rintro o w1 ⟨rfl, hb⟩; replace P := Go.Lib.hid (row_next hb P.out); replace hB := Go.Lib.hid (below_next hB.out hb); clear hb)
      | (go_at_call 12; (refine (HS.out _).mono ?_); rintro o w1 ⟨rfl, hb⟩; replace P := Go.Lib.hid (row_next hb P.out); replace hB := Go.Lib.hid (below_next hB.out hb); clear hb)
      | (go_at_call 13; (refine (HI.out _).mono ?_); rintro o w1 ⟨rfl, hb⟩; replace P := Go.Lib.hid (row_next hb P.out); replace hB := Go.Lib.hid (below_next hB.out hb); clear hb))
    go_ret
    exact ⟨rfl, hB.out⟩
theorem lo_law (b : Br) (w : World) (hf : b.fit) : Calls Try.prog 4 #[.agg b.row] w fun o w' => o = .returned (.bool true) ∧ Below w.heap.size w w' := by
  have HS := Go.Lib.hid fun w => specLo b hf w
  have HI := Go.Lib.hid fun w => implLo b hf w
  have P : Hid ((w.alloc (.cells (vrow 5 b.at) 26)).heap[w.heap.size]? = some (.cells (vrow 5 b.at) 26)) := heap_at _ _ _ (by simp)
  have hB : Hid (Below w.heap.size w (w.alloc (.cells (vrow 5 b.at) 26))) := ((Below.refl w.heap.size w).alloc (by simp <;> omega) _)
  clear hf
  generalize b.sum = v at *
  go_enter Try.func4, Try.ntmps4
  go_wp2_with (first
    | go_skip
    | ((with_reducible refine wlAt 5 rfl ?_); refine wpList_loadall rfl 26 (.tmp 1) rfl _ rfl 5 b.at 26 _ Try.underlying26 rfl size_lbr P.out ?_)
    | ((with_reducible refine wlAt 8 rfl ?_); refine wpList_loadall rfl 26 (.tmp 1) rfl _ rfl 5 b.at 26 _ Try.underlying26 rfl size_lbr P.out ?_)
    | (go_at_call 7; (refine (toBrush_any b _).mono ?_); rintro o w1 ⟨rfl, hb⟩; replace P := Go.Lib.hid (row_next hb P.out); replace hB := Go.Lib.hid (below_next hB.out hb); clear hb)
    | (go_at_call 10; (refine (HS.out _).mono ?_); rintro o w1 ⟨rfl, hb⟩; replace P := Go.Lib.hid (row_next hb P.out); replace hB := Go.Lib.hid (below_next hB.out hb); clear hb)
    | (go_at_call 11; (refine (HI.out _).mono ?_); rintro o w1 ⟨rfl, hb⟩; replace P := Go.Lib.hid (row_next hb P.out); replace hB := Go.Lib.hid (below_next hB.out hb); clear hb))
  go_ret
  exact ⟨rfl, hB.out⟩
end Go.Proofs.Ythkkbkpfomhdeaa
