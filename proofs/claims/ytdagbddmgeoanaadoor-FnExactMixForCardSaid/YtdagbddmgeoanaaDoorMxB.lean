import Derived.Test.YtdagbddmgeoanaaDoorMxA
namespace Go.Proofs.YtdagbddmgeoanaaDoor
open Go.RowKit
set_option maxRecDepth 100000
set_option linter.unusedVariables false
set_option linter.unusedSimpArgs false
theorem below_next' {B : Nat} {w W W' : World} (h : Below B w W) (hs : B ≤ w.heap.size) (hb : Below W.heap.size W W') : Below B w W' := h.trans (hb.mono (Nat.le_trans hs h.size))
set_option maxHeartbeats 4000000 in
theorem keep_yes (m m0 v : Nat → Int) (P least : Int) (b1 b2 b3 b4 b5 B : Nat) (w : World) (hm : in3 m 30) (hv : in3 v 1000) (hP : 1 ≤ P ∧ P ≤ 30) (h1 : w.heap[b1]? = some (.cells (vrow 3 (i3 v)) 22)) (h2 : w.heap[b2]? = some (.cells (vrow 1 fun _ => .int .i64 P) 2)) (h3 : w.heap[b3]? = some (.cells (vrow 1 fun _ => .int .i64 least) 2)) (h4 : w.heap[b4]? = some (.cells (vrow 3 (i3 m0)) 22)) (h5 : w.heap[b5]? = some (.cells (vrow 3 fun _ => .int .i64 0) 22)) (h12 : b1 < b2) (h25 : b2 < b5) (h54 : b5 < b4) (h43 : b4 < b3) (hb1 : B ≤ b1) (hlt : decide (offK v P m 3 < least) = true) :
    Calls Tryd.prog 18 #[.agg (vrow 3 (i3 m)), .pointer (some ⟨b1, 0, none⟩), .pointer (some ⟨b2, 0, none⟩), .pointer (some ⟨b3, 0, none⟩), .pointer (some ⟨b4, 0, none⟩)] w fun e w' => e = .returned (.tuple #[]) ∧ w'.heap[b1]? = some (.cells (vrow 3 (i3 v)) 22) ∧ w'.heap[b2]? = some (.cells (vrow 1 fun _ => .int .i64 P) 2) ∧ w'.heap[b3]? = some (.cells (vrow 1 fun _ => .int .i64 (offK v P m 3)) 2) ∧ w'.heap[b4]? = some (.cells (vrow 3 (i3 m)) 22) ∧ w'.heap[b5]? = some (.cells (vrow 3 fun _ => .int .i64 0) 22) ∧ Below B w w' := by
  have HF := Go.Lib.hid fun w => offFrom_any m v P w hm hv hP
  generalize offK v P m 3 = of at *
  have r3 := row_lt h3
  have hBs : B ≤ w.heap.size := by omega
  have X : Hid ((w.alloc (.cells (vrow 3 (i3 m)) 22)).heap[w.heap.size]? = some (.cells (vrow 3 (i3 m)) 22)) := heap_at _ _ _ rfl
  have Wn : Hid ((w.alloc (.cells (vrow 3 (i3 m)) 22)).heap[b1]? = some (.cells (vrow 3 (i3 v)) 22)) := heap_past _ _ _ _ (row_lt h1) h1
  have Pt : Hid ((w.alloc (.cells (vrow 3 (i3 m)) 22)).heap[b2]? = some (.cells (vrow 1 fun _ => .int .i64 P) 2)) := heap_past _ _ _ _ (row_lt h2) h2
  have Ls : Hid ((w.alloc (.cells (vrow 3 (i3 m)) 22)).heap[b3]? = some (.cells (vrow 1 fun _ => .int .i64 least) 2)) := heap_past _ _ _ _ (row_lt h3) h3
  have Bs : Hid ((w.alloc (.cells (vrow 3 (i3 m)) 22)).heap[b4]? = some (.cells (vrow 3 (i3 m0)) 22)) := heap_past _ _ _ _ (row_lt h4) h4
  have Zr : Hid ((w.alloc (.cells (vrow 3 (i3 m)) 22)).heap[b5]? = some (.cells (vrow 3 fun _ => .int .i64 0) 22)) := heap_past _ _ _ _ (row_lt h5) h5
  have hB : Hid (Below B w (w.alloc (.cells (vrow 3 (i3 m)) 22))) := Go.Lib.hid ((Below.refl B w).alloc hBs _)
  clear h1 h2 h3 h4 h5
  go_enter Tryd.func18, Tryd.ntmps18
  go_wp2_with (first
    | go_skip
    | ((with_reducible refine wlAt 7 rfl ?_); refine wpList_loadall rfl 22 (.tmp 5) rfl w.heap.size rfl 3 (i3 m) 22 _ Tryd.underlying22 rfl size_i3 X.out ?_)
    | ((with_reducible refine wlAt 8 rfl ?_); refine wpList_loadall rfl 22 (.tmp 1) rfl b1 rfl 3 (i3 v) 22 _ Tryd.underlying22 rfl size_i3 Wn.out ?_)
    | ((with_reducible refine wlAt 9 rfl ?_); refine wpList_load1 rfl 2 (.tmp 2) rfl b2 0 rfl 1 (fun _ => .int .i64 P) _ _ Tryd.underlying2 rfl Pt.out (by omega) ?_)
    | (go_at_call 17; (refine (HF.out _).mono ?_); rintro o w1 ⟨rfl, hb⟩; replace X := Go.Lib.hid (row_next hb X.out); replace Wn := Go.Lib.hid (row_next hb Wn.out); replace Pt := Go.Lib.hid (row_next hb Pt.out); replace Bs := Go.Lib.hid (row_next hb Bs.out); replace Ls := Go.Lib.hid (row_next hb Ls.out); replace Zr := Go.Lib.hid (row_next hb Zr.out); replace hB := Go.Lib.hid (below_next' hB.out hBs hb); clear hb)
    | ((with_reducible refine wlAt 12 rfl ?_); refine wpList_load1 rfl 2 (.tmp 3) rfl b3 0 rfl 1 (fun _ => .int .i64 least) _ _ Tryd.underlying2 rfl Ls.out (by omega) ?_)
    | ((with_reducible refine wlAt 14 rfl ?_); refine wpList_loadall rfl 22 (.tmp 5) rfl w.heap.size rfl 3 (i3 m) 22 _ Tryd.underlying22 rfl size_i3 X.out ?_)
    | ((with_reducible refine wlOp (.store 22 (.tmp 4) (.tmp 14)) rfl ?_); refine wpList_storeall rfl 22 (.tmp 4) (.tmp 14) rfl b4 rfl 3 (i3 m0) (i3 m) rfl 22 size_i3 Bs.out (fun i _ => i3_one _ i) ?_; replace Bs := Go.Lib.hid (row_set Bs.out (vrow 3 (i3 m))); replace Wn := Go.Lib.hid (row_set' (g := b4) (by omega) Wn.out (vrow 3 (i3 m))); replace Pt := Go.Lib.hid (row_set' (g := b4) (by omega) Pt.out (vrow 3 (i3 m))); replace Zr := Go.Lib.hid (row_set' (g := b4) (by omega) Zr.out (vrow 3 (i3 m))); replace Ls := Go.Lib.hid (row_set' (g := b4) (by omega) Ls.out (vrow 3 (i3 m))); replace hB := Go.Lib.hid (Below_setRow hB.out (show B ≤ b4 by omega) (vrow 3 (i3 m))); clear X; generalize World.setRow w1 b4 (vrow 3 (i3 m)) = W5 at Bs Wn Pt Ls Zr hB ⊢)
    | ((with_reducible refine wlOp (.store 2 (.tmp 3) (.tmp 15)) rfl ?_); refine wpList_store1 rfl 2 (.tmp 3) (.tmp 15) rfl b3 0 rfl 1 (fun _ => .int .i64 least) (.int .i64 of) rfl 2 size_i64c Ls.out (by omega) rfl ?_; rw [vrow_over_all]; replace Ls := Go.Lib.hid (row_set Ls.out (vrow 1 fun _ => .int .i64 of)); replace Wn := Go.Lib.hid (row_set' (g := b3) (by omega) Wn.out (vrow 1 fun _ => .int .i64 of)); replace Pt := Go.Lib.hid (row_set' (g := b3) (by omega) Pt.out (vrow 1 fun _ => .int .i64 of)); replace Zr := Go.Lib.hid (row_set' (g := b3) (by omega) Zr.out (vrow 1 fun _ => .int .i64 of)); replace Bs := Go.Lib.hid (row_set' (g := b3) (by omega) Bs.out (vrow 1 fun _ => .int .i64 of)); replace hB := Go.Lib.hid (Below_setRow hB.out (show B ≤ b3 by omega) (vrow 1 fun _ => .int .i64 of)))
    | fail)
  go_end0
  exact ⟨rfl, Wn.out, Pt.out, Ls.out, Bs.out, Zr.out, hB.out⟩
set_option maxHeartbeats 4000000 in
theorem keep_no (m m0 v : Nat → Int) (P least : Int) (b1 b2 b3 b4 b5 B : Nat) (w : World) (hm : in3 m 30) (hv : in3 v 1000) (hP : 1 ≤ P ∧ P ≤ 30) (h1 : w.heap[b1]? = some (.cells (vrow 3 (i3 v)) 22)) (h2 : w.heap[b2]? = some (.cells (vrow 1 fun _ => .int .i64 P) 2)) (h3 : w.heap[b3]? = some (.cells (vrow 1 fun _ => .int .i64 least) 2)) (h4 : w.heap[b4]? = some (.cells (vrow 3 (i3 m0)) 22)) (h5 : w.heap[b5]? = some (.cells (vrow 3 fun _ => .int .i64 0) 22)) (h12 : b1 < b2) (h25 : b2 < b5) (h54 : b5 < b4) (h43 : b4 < b3) (hb1 : B ≤ b1) (hlt : decide (offK v P m 3 < least) = false) :
    Calls Tryd.prog 18 #[.agg (vrow 3 (i3 m)), .pointer (some ⟨b1, 0, none⟩), .pointer (some ⟨b2, 0, none⟩), .pointer (some ⟨b3, 0, none⟩), .pointer (some ⟨b4, 0, none⟩)] w fun e w' => e = .returned (.tuple #[]) ∧ w'.heap[b1]? = some (.cells (vrow 3 (i3 v)) 22) ∧ w'.heap[b2]? = some (.cells (vrow 1 fun _ => .int .i64 P) 2) ∧ w'.heap[b3]? = some (.cells (vrow 1 fun _ => .int .i64 least) 2) ∧ w'.heap[b4]? = some (.cells (vrow 3 (i3 m0)) 22) ∧ w'.heap[b5]? = some (.cells (vrow 3 fun _ => .int .i64 0) 22) ∧ Below B w w' := by
  have HF := Go.Lib.hid fun w => offFrom_any m v P w hm hv hP
  generalize offK v P m 3 = of at *
  have r3 := row_lt h3
  have hBs : B ≤ w.heap.size := by omega
  have X : Hid ((w.alloc (.cells (vrow 3 (i3 m)) 22)).heap[w.heap.size]? = some (.cells (vrow 3 (i3 m)) 22)) := heap_at _ _ _ rfl
  have Wn : Hid ((w.alloc (.cells (vrow 3 (i3 m)) 22)).heap[b1]? = some (.cells (vrow 3 (i3 v)) 22)) := heap_past _ _ _ _ (row_lt h1) h1
  have Pt : Hid ((w.alloc (.cells (vrow 3 (i3 m)) 22)).heap[b2]? = some (.cells (vrow 1 fun _ => .int .i64 P) 2)) := heap_past _ _ _ _ (row_lt h2) h2
  have Ls : Hid ((w.alloc (.cells (vrow 3 (i3 m)) 22)).heap[b3]? = some (.cells (vrow 1 fun _ => .int .i64 least) 2)) := heap_past _ _ _ _ (row_lt h3) h3
  have Bs : Hid ((w.alloc (.cells (vrow 3 (i3 m)) 22)).heap[b4]? = some (.cells (vrow 3 (i3 m0)) 22)) := heap_past _ _ _ _ (row_lt h4) h4
  have Zr : Hid ((w.alloc (.cells (vrow 3 (i3 m)) 22)).heap[b5]? = some (.cells (vrow 3 fun _ => .int .i64 0) 22)) := heap_past _ _ _ _ (row_lt h5) h5
  have hB : Hid (Below B w (w.alloc (.cells (vrow 3 (i3 m)) 22))) := Go.Lib.hid ((Below.refl B w).alloc hBs _)
  clear h1 h2 h3 h4 h5
  go_enter Tryd.func18, Tryd.ntmps18
  go_wp2_with (first
    | go_skip
    | ((with_reducible refine wlAt 7 rfl ?_); refine wpList_loadall rfl 22 (.tmp 5) rfl w.heap.size rfl 3 (i3 m) 22 _ Tryd.underlying22 rfl size_i3 X.out ?_)
    | ((with_reducible refine wlAt 8 rfl ?_); refine wpList_loadall rfl 22 (.tmp 1) rfl b1 rfl 3 (i3 v) 22 _ Tryd.underlying22 rfl size_i3 Wn.out ?_)
    | ((with_reducible refine wlAt 9 rfl ?_); refine wpList_load1 rfl 2 (.tmp 2) rfl b2 0 rfl 1 (fun _ => .int .i64 P) _ _ Tryd.underlying2 rfl Pt.out (by omega) ?_)
    | (go_at_call 17; (refine (HF.out _).mono ?_); rintro o w1 ⟨rfl, hb⟩; replace X := Go.Lib.hid (row_next hb X.out); replace Wn := Go.Lib.hid (row_next hb Wn.out); replace Pt := Go.Lib.hid (row_next hb Pt.out); replace Bs := Go.Lib.hid (row_next hb Bs.out); replace Ls := Go.Lib.hid (row_next hb Ls.out); replace Zr := Go.Lib.hid (row_next hb Zr.out); replace hB := Go.Lib.hid (below_next' hB.out hBs hb); clear hb)
    | ((with_reducible refine wlAt 12 rfl ?_); refine wpList_load1 rfl 2 (.tmp 3) rfl b3 0 rfl 1 (fun _ => .int .i64 least) _ _ Tryd.underlying2 rfl Ls.out (by omega) ?_)
    | fail)
  go_end0
  exact ⟨rfl, Wn.out, Pt.out, Ls.out, Bs.out, Zr.out, hB.out⟩
end Go.Proofs.YtdagbddmgeoanaaDoor
