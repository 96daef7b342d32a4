import Derived.Deep.RegionHeld3
import Derived.Test.YtfgcpiipndhllaaDoorLiftI2
namespace Go.Proofs.YtfgcpiipndhllaaDoor
open Go.RowKit
set_option maxRecDepth 100000
set_option linter.unusedVariables false
set_option linter.unusedSimpArgs false
theorem built_zsh2 : Tryd.prog.built 36 [] = some Sh.zero.row := by kernel_rfl
set_option maxHeartbeats 1000000 in
theorem ckTouch_bad (s : Sh) (b : Br) (x y : Int) (e : ErrE) (w : World) (hE : Errs e w) (hf : b.fit) (ho : b.ok = false) : Calls Tryd.prog 130 #[.agg s.row, .agg b.row, .agg (vrow 2 (spAt x y))] w fun o w' => o = .returned (errP e 1) ∧ Below w.heap.size w w' := by
  have HC := Go.Lib.hid fun w hE => ckBrush_bad b e w hE hf ho
  clear hf ho
  have P : Hid ((((w.alloc (.cells (vrow 266 s.at) 36)).alloc (.cells (vrow 5 b.at) 49)).alloc (.cells (vrow 2 (spAt x y)) 33)).heap[w.heap.size]? = some (.cells (vrow 266 s.at) 36)) := heap_past _ _ _ _ (by simp <;> omega) (heap_past _ _ _ _ (by simp <;> omega) (heap_at _ _ _ (by simp)))
  have R : Hid ((((w.alloc (.cells (vrow 266 s.at) 36)).alloc (.cells (vrow 5 b.at) 49)).alloc (.cells (vrow 2 (spAt x y)) 33)).heap[w.heap.size + 1]? = some (.cells (vrow 5 b.at) 49)) := heap_past _ _ _ _ (by simp <;> omega) (heap_at _ _ _ (by simp))
  have T : Hid ((((w.alloc (.cells (vrow 266 s.at) 36)).alloc (.cells (vrow 5 b.at) 49)).alloc (.cells (vrow 2 (spAt x y)) 33)).heap[w.heap.size + 2]? = some (.cells (vrow 2 (spAt x y)) 33)) := heap_at _ _ _ (by simp)
  have hB : Hid (Below w.heap.size w (((w.alloc (.cells (vrow 266 s.at) 36)).alloc (.cells (vrow 5 b.at) 49)).alloc (.cells (vrow 2 (spAt x y)) 33))) := ((((Below.refl w.heap.size w).alloc (by simp <;> omega) _).alloc (by simp <;> omega) _).alloc (by simp <;> omega) _)
  have E : Hid (Errs e (((w.alloc (.cells (vrow 266 s.at) 36)).alloc (.cells (vrow 5 b.at) 49)).alloc (.cells (vrow 2 (spAt x y)) 33))) := ((hE.alloc _).alloc _).alloc _
  go_enter Tryd.func130, Tryd.ntmps130
  go_wp2_with (first | go_skip | ((with_reducible refine wlAt 8 rfl ?_); refine wpList_loadall rfl 49 (.tmp 4) rfl _ rfl 5 b.at 49 _ Tryd.underlying49 rfl size_br R.out ?_) | (go_at_call 170; (refine (HC.out _ E.out).mono ?_); rintro o w1 ⟨rfl, hb⟩; replace P := Go.Lib.hid (row_next hb P.out); replace R := Go.Lib.hid (row_next hb R.out); replace T := Go.Lib.hid (row_next hb T.out); replace hB := Go.Lib.hid (below_next hB.out hb); replace E := Go.Lib.hid (E.out.next hb); clear hb))
  go_ret
  exact ⟨rfl, hB.out⟩
set_option maxHeartbeats 1000000 in
theorem ckTouch_next (s : Sh) (b : Br) (x y : Int) (v : Value) (e : ErrE) (w : World) (hE : Errs e w) (hf : b.fit) (ho : b.ok = true) (HN0 : ∀ w, Errs e w → Calls Tryd.prog 171 #[.agg s.row, .agg (vrow 2 (spAt x y))] w fun o w' => o = .returned v ∧ Below w.heap.size w w') : Calls Tryd.prog 130 #[.agg s.row, .agg b.row, .agg (vrow 2 (spAt x y))] w fun o w' => o = .returned v ∧ Below w.heap.size w w' := by
  have HC := Go.Lib.hid fun w hE => ckBrush_ok b e w hE hf ho
  have HN := Go.Lib.hid HN0
  clear hf ho HN0
  have P : Hid ((((w.alloc (.cells (vrow 266 s.at) 36)).alloc (.cells (vrow 5 b.at) 49)).alloc (.cells (vrow 2 (spAt x y)) 33)).heap[w.heap.size]? = some (.cells (vrow 266 s.at) 36)) := heap_past _ _ _ _ (by simp <;> omega) (heap_past _ _ _ _ (by simp <;> omega) (heap_at _ _ _ (by simp)))
  have R : Hid ((((w.alloc (.cells (vrow 266 s.at) 36)).alloc (.cells (vrow 5 b.at) 49)).alloc (.cells (vrow 2 (spAt x y)) 33)).heap[w.heap.size + 1]? = some (.cells (vrow 5 b.at) 49)) := heap_past _ _ _ _ (by simp <;> omega) (heap_at _ _ _ (by simp))
  have T : Hid ((((w.alloc (.cells (vrow 266 s.at) 36)).alloc (.cells (vrow 5 b.at) 49)).alloc (.cells (vrow 2 (spAt x y)) 33)).heap[w.heap.size + 2]? = some (.cells (vrow 2 (spAt x y)) 33)) := heap_at _ _ _ (by simp)
  have hB : Hid (Below w.heap.size w (((w.alloc (.cells (vrow 266 s.at) 36)).alloc (.cells (vrow 5 b.at) 49)).alloc (.cells (vrow 2 (spAt x y)) 33))) := ((((Below.refl w.heap.size w).alloc (by simp <;> omega) _).alloc (by simp <;> omega) _).alloc (by simp <;> omega) _)
  have E : Hid (Errs e (((w.alloc (.cells (vrow 266 s.at) 36)).alloc (.cells (vrow 5 b.at) 49)).alloc (.cells (vrow 2 (spAt x y)) 33))) := ((hE.alloc _).alloc _).alloc _
  go_enter Tryd.func130, Tryd.ntmps130
  go_wp2_with (first
    | go_skip | ((with_reducible refine wlAt 8 rfl ?_); refine wpList_loadall rfl 49 (.tmp 4) rfl _ rfl 5 b.at 49 _ Tryd.underlying49 rfl size_br R.out ?_) | (go_at_call 170; (refine (HC.out _ E.out).mono ?_); rintro o w1 ⟨rfl, hb⟩; replace P := Go.Lib.hid (row_next hb P.out); replace R := Go.Lib.hid (row_next hb R.out); replace T := Go.Lib.hid (row_next hb T.out); replace hB := Go.Lib.hid (below_next hB.out hb); replace E := Go.Lib.hid (E.out.next hb); clear hb)
    | ((with_reducible refine wlAt 13 rfl ?_); refine wpList_loadall rfl 36 (.tmp 3) rfl _ rfl 266 s.at 36 _ Tryd.underlying36 rfl size_sheet P.out ?_)
    | ((with_reducible refine wlAt 14 rfl ?_); refine wpList_loadall rfl 33 (.tmp 5) rfl _ rfl 2 (spAt x y) 33 _ Tryd.underlying33 rfl size_spot T.out ?_)
    | (go_at_call 171; (refine (HN.out _ E.out).mono ?_); rintro o w1 ⟨rfl, hb⟩; replace P := Go.Lib.hid (row_next hb P.out); replace R := Go.Lib.hid (row_next hb R.out); replace T := Go.Lib.hid (row_next hb T.out); replace hB := Go.Lib.hid (below_next hB.out hb); replace E := Go.Lib.hid (E.out.next hb); clear hb))
  go_ret
  exact ⟨rfl, hB.out⟩
set_option maxHeartbeats 1000000 in
theorem ckLift_err (s : Sh) (b : Br) (x y p : Int) (c : Nat) (e : ErrE) (w : World) (hE : Errs e w) (HC0 : ∀ w, Errs e w → Calls Tryd.prog 130 #[.agg s.row, .agg b.row, .agg (vrow 2 (spAt x y))] w fun o w' => o = .returned (errP e c) ∧ Below w.heap.size w w') : Calls Tryd.prog 79 #[.agg s.row, .agg b.row, .agg (vrow 2 (spAt x y)), .int .i64 p] w fun o w' => o = .returned (errP e c) ∧ Below w.heap.size w w' := by
  have HC := Go.Lib.hid HC0
  clear HC0
  have P : Hid ((((w.alloc (.cells (vrow 266 s.at) 36)).alloc (.cells (vrow 5 b.at) 49)).alloc (.cells (vrow 2 (spAt x y)) 33)).heap[w.heap.size]? = some (.cells (vrow 266 s.at) 36)) := heap_past _ _ _ _ (by simp <;> omega) (heap_past _ _ _ _ (by simp <;> omega) (heap_at _ _ _ (by simp)))
  have R : Hid ((((w.alloc (.cells (vrow 266 s.at) 36)).alloc (.cells (vrow 5 b.at) 49)).alloc (.cells (vrow 2 (spAt x y)) 33)).heap[w.heap.size + 1]? = some (.cells (vrow 5 b.at) 49)) := heap_past _ _ _ _ (by simp <;> omega) (heap_at _ _ _ (by simp))
  have T : Hid ((((w.alloc (.cells (vrow 266 s.at) 36)).alloc (.cells (vrow 5 b.at) 49)).alloc (.cells (vrow 2 (spAt x y)) 33)).heap[w.heap.size + 2]? = some (.cells (vrow 2 (spAt x y)) 33)) := heap_at _ _ _ (by simp)
  have hB : Hid (Below w.heap.size w (((w.alloc (.cells (vrow 266 s.at) 36)).alloc (.cells (vrow 5 b.at) 49)).alloc (.cells (vrow 2 (spAt x y)) 33))) := ((((Below.refl w.heap.size w).alloc (by simp <;> omega) _).alloc (by simp <;> omega) _).alloc (by simp <;> omega) _)
  have E : Hid (Errs e (((w.alloc (.cells (vrow 266 s.at) 36)).alloc (.cells (vrow 5 b.at) 49)).alloc (.cells (vrow 2 (spAt x y)) 33))) := ((hE.alloc _).alloc _).alloc _
  go_enter Tryd.func79, Tryd.ntmps79
  go_wp2_with (first | go_skip | ((with_reducible refine wlAt 10 rfl ?_); refine wpList_loadall rfl 36 (.tmp 4) rfl _ rfl 266 s.at 36 _ Tryd.underlying36 rfl size_sheet P.out ?_) | ((with_reducible refine wlAt 11 rfl ?_); refine wpList_loadall rfl 49 (.tmp 5) rfl _ rfl 5 b.at 49 _ Tryd.underlying49 rfl size_br R.out ?_) | ((with_reducible refine wlAt 12 rfl ?_); refine wpList_loadall rfl 33 (.tmp 6) rfl _ rfl 2 (spAt x y) 33 _ Tryd.underlying33 rfl size_spot T.out ?_) | (go_at_call 130; (refine (HC.out _ E.out).mono ?_); rintro o w1 ⟨rfl, hb⟩; replace P := Go.Lib.hid (row_next hb P.out); replace R := Go.Lib.hid (row_next hb R.out); replace T := Go.Lib.hid (row_next hb T.out); replace hB := Go.Lib.hid (below_next hB.out hb); replace E := Go.Lib.hid (E.out.next hb); clear hb) | ((with_reducible refine wlAt 23 rfl ?_); refine wpList_ld1 107 _ rfl (by first | exact want_n rfl | exact want_g _ _ _ rfl rfl rfl) 1 0 rfl 1 (fun _ => errP e 2) _ rw_err E.out.v2 (by omega) ?_))
  go_ret
  exact ⟨rfl, hB.out⟩
set_option maxHeartbeats 2000000 in
theorem ckLift_un (s : Sh) (b : Br) (x y p : Int) (e : ErrE) (w : World) (hE : Errs e w) (hp : p < 0 ∨ 16 < p) (HC0 : ∀ w, Errs e w → Calls Tryd.prog 130 #[.agg s.row, .agg b.row, .agg (vrow 2 (spAt x y))] w fun o w' => o = .returned .nilIface ∧ Below w.heap.size w w') : Calls Tryd.prog 79 #[.agg s.row, .agg b.row, .agg (vrow 2 (spAt x y)), .int .i64 p] w fun o w' => o = .returned (errP e 2) ∧ Below w.heap.size w w' := by
  have HC := Go.Lib.hid HC0
  clear HC0
  have P : Hid ((((w.alloc (.cells (vrow 266 s.at) 36)).alloc (.cells (vrow 5 b.at) 49)).alloc (.cells (vrow 2 (spAt x y)) 33)).heap[w.heap.size]? = some (.cells (vrow 266 s.at) 36)) := heap_past _ _ _ _ (by simp <;> omega) (heap_past _ _ _ _ (by simp <;> omega) (heap_at _ _ _ (by simp)))
  have R : Hid ((((w.alloc (.cells (vrow 266 s.at) 36)).alloc (.cells (vrow 5 b.at) 49)).alloc (.cells (vrow 2 (spAt x y)) 33)).heap[w.heap.size + 1]? = some (.cells (vrow 5 b.at) 49)) := heap_past _ _ _ _ (by simp <;> omega) (heap_at _ _ _ (by simp))
  have T : Hid ((((w.alloc (.cells (vrow 266 s.at) 36)).alloc (.cells (vrow 5 b.at) 49)).alloc (.cells (vrow 2 (spAt x y)) 33)).heap[w.heap.size + 2]? = some (.cells (vrow 2 (spAt x y)) 33)) := heap_at _ _ _ (by simp)
  have hB : Hid (Below w.heap.size w (((w.alloc (.cells (vrow 266 s.at) 36)).alloc (.cells (vrow 5 b.at) 49)).alloc (.cells (vrow 2 (spAt x y)) 33))) := ((((Below.refl w.heap.size w).alloc (by simp <;> omega) _).alloc (by simp <;> omega) _).alloc (by simp <;> omega) _)
  have E : Hid (Errs e (((w.alloc (.cells (vrow 266 s.at) 36)).alloc (.cells (vrow 5 b.at) 49)).alloc (.cells (vrow 2 (spAt x y)) 33))) := ((hE.alloc _).alloc _).alloc _
  have hc : p < 0 ∨ (0 ≤ p ∧ 16 < p) := by omega
  clear hp
  rcases hc with h1 | ⟨h1, h2⟩
  all_goals
    go_enter Tryd.func79, Tryd.ntmps79
    go_wp2_with (first | go_skip | ((with_reducible refine wlAt 10 rfl ?_); refine wpList_loadall rfl 36 (.tmp 4) rfl _ rfl 266 s.at 36 _ Tryd.underlying36 rfl size_sheet P.out ?_) | ((with_reducible refine wlAt 11 rfl ?_); refine wpList_loadall rfl 49 (.tmp 5) rfl _ rfl 5 b.at 49 _ Tryd.underlying49 rfl size_br R.out ?_) | ((with_reducible refine wlAt 12 rfl ?_); refine wpList_loadall rfl 33 (.tmp 6) rfl _ rfl 2 (spAt x y) 33 _ Tryd.underlying33 rfl size_spot T.out ?_) | (go_at_call 130; (refine (HC.out _ E.out).mono ?_); rintro o w1 ⟨rfl, hb⟩; replace P := Go.Lib.hid (row_next hb P.out); replace R := Go.Lib.hid (row_next hb R.out); replace T := Go.Lib.hid (row_next hb T.out); replace hB := Go.Lib.hid (below_next hB.out hb); replace E := Go.Lib.hid (E.out.next hb); clear hb) | ((with_reducible refine wlAt 23 rfl ?_); refine wpList_ld1 107 _ rfl (by first | exact want_n rfl | exact want_g _ _ _ rfl rfl rfl) 1 0 rfl 1 (fun _ => errP e 2) _ rw_err E.out.v2 (by omega) ?_))
    go_ret
    exact ⟨rfl, hB.out⟩
set_option maxHeartbeats 1000000 in
theorem ckLift_ok (s : Sh) (b : Br) (x y p : Int) (e : ErrE) (w : World) (hE : Errs e w) (hp : 0 ≤ p ∧ p ≤ 16) (HC0 : ∀ w, Errs e w → Calls Tryd.prog 130 #[.agg s.row, .agg b.row, .agg (vrow 2 (spAt x y))] w fun o w' => o = .returned .nilIface ∧ Below w.heap.size w w') : Calls Tryd.prog 79 #[.agg s.row, .agg b.row, .agg (vrow 2 (spAt x y)), .int .i64 p] w fun o w' => o = .returned .nilIface ∧ Below w.heap.size w w' := by
  have HC := Go.Lib.hid HC0
  clear HC0
  obtain ⟨h1, h2⟩ := hp
  have P : Hid ((((w.alloc (.cells (vrow 266 s.at) 36)).alloc (.cells (vrow 5 b.at) 49)).alloc (.cells (vrow 2 (spAt x y)) 33)).heap[w.heap.size]? = some (.cells (vrow 266 s.at) 36)) := heap_past _ _ _ _ (by simp <;> omega) (heap_past _ _ _ _ (by simp <;> omega) (heap_at _ _ _ (by simp)))
  have R : Hid ((((w.alloc (.cells (vrow 266 s.at) 36)).alloc (.cells (vrow 5 b.at) 49)).alloc (.cells (vrow 2 (spAt x y)) 33)).heap[w.heap.size + 1]? = some (.cells (vrow 5 b.at) 49)) := heap_past _ _ _ _ (by simp <;> omega) (heap_at _ _ _ (by simp))
  have T : Hid ((((w.alloc (.cells (vrow 266 s.at) 36)).alloc (.cells (vrow 5 b.at) 49)).alloc (.cells (vrow 2 (spAt x y)) 33)).heap[w.heap.size + 2]? = some (.cells (vrow 2 (spAt x y)) 33)) := heap_at _ _ _ (by simp)
  have hB : Hid (Below w.heap.size w (((w.alloc (.cells (vrow 266 s.at) 36)).alloc (.cells (vrow 5 b.at) 49)).alloc (.cells (vrow 2 (spAt x y)) 33))) := ((((Below.refl w.heap.size w).alloc (by simp <;> omega) _).alloc (by simp <;> omega) _).alloc (by simp <;> omega) _)
  have E : Hid (Errs e (((w.alloc (.cells (vrow 266 s.at) 36)).alloc (.cells (vrow 5 b.at) 49)).alloc (.cells (vrow 2 (spAt x y)) 33))) := ((hE.alloc _).alloc _).alloc _
  go_enter Tryd.func79, Tryd.ntmps79
  go_wp2_with (first | go_skip | ((with_reducible refine wlAt 10 rfl ?_); refine wpList_loadall rfl 36 (.tmp 4) rfl _ rfl 266 s.at 36 _ Tryd.underlying36 rfl size_sheet P.out ?_) | ((with_reducible refine wlAt 11 rfl ?_); refine wpList_loadall rfl 49 (.tmp 5) rfl _ rfl 5 b.at 49 _ Tryd.underlying49 rfl size_br R.out ?_) | ((with_reducible refine wlAt 12 rfl ?_); refine wpList_loadall rfl 33 (.tmp 6) rfl _ rfl 2 (spAt x y) 33 _ Tryd.underlying33 rfl size_spot T.out ?_) | (go_at_call 130; (refine (HC.out _ E.out).mono ?_); rintro o w1 ⟨rfl, hb⟩; replace P := Go.Lib.hid (row_next hb P.out); replace R := Go.Lib.hid (row_next hb R.out); replace T := Go.Lib.hid (row_next hb T.out); replace hB := Go.Lib.hid (below_next hB.out hb); replace E := Go.Lib.hid (E.out.next hb); clear hb) | ((with_reducible refine wlAt 23 rfl ?_); refine wpList_ld1 107 _ rfl (by first | exact want_n rfl | exact want_g _ _ _ rfl rfl rfl) 1 0 rfl 1 (fun _ => errP e 2) _ rw_err E.out.v2 (by omega) ?_))
  go_ret
  exact ⟨rfl, hB.out⟩
set_option maxHeartbeats 4000000 in
theorem implLift_err (s : Sh) (b : Br) (x y p : Int) (c : Nat) (hc : c = 1 ∨ c = 2) (e : ErrE) (w : World) (hE : Errs e w) (HC0 : ∀ w, Errs e w → Calls Tryd.prog 79 #[.agg s.row, .agg b.row, .agg (vrow 2 (spAt x y)), .int .i64 p] w fun o w' => o = .returned (errP e c) ∧ Below w.heap.size w w') : Calls Tryd.prog 25 #[.agg s.row, .agg b.row, .agg (vrow 2 (spAt x y)), .int .i64 p] w fun o w' => o = .returned (.tuple #[.agg Sh.zero.row, .agg Br.zero.row, .int .i64 c]) ∧ Below w.heap.size w w' := by
  have HC := Go.Lib.hid HC0
  have HD : Hid (∀ w, Errs e w → Calls Tryd.prog 62 #[errP e c] w fun o w' => o = .returned (.int .i64 c) ∧ Below w.heap.size w w') := by
    rcases hc with rfl | rfl
    · exact Go.Lib.hid fun w hE => codeOf_1 e w hE
    · exact Go.Lib.hid fun w hE => codeOf_2 e w hE
  have zz := zero_br
  have zs := zero_sheet
  clear HC0
  have P : Hid ((((((w.alloc (.cells (vrow 266 s.at) 36)).alloc (.cells (vrow 5 b.at) 49)).alloc (.cells (vrow 2 (spAt x y)) 33)).alloc (.cells (vrow 266 Sh.zero.at) 36)).alloc (.cells (vrow 5 Br.zero.at) 49)).heap[w.heap.size]? = some (.cells (vrow 266 s.at) 36)) := heap_past _ _ _ _ (by simp <;> omega) (heap_past _ _ _ _ (by simp <;> omega) (heap_past _ _ _ _ (by simp <;> omega) (heap_past _ _ _ _ (by simp <;> omega) (heap_at _ _ _ (by simp)))))
  have R : Hid ((((((w.alloc (.cells (vrow 266 s.at) 36)).alloc (.cells (vrow 5 b.at) 49)).alloc (.cells (vrow 2 (spAt x y)) 33)).alloc (.cells (vrow 266 Sh.zero.at) 36)).alloc (.cells (vrow 5 Br.zero.at) 49)).heap[w.heap.size + 1]? = some (.cells (vrow 5 b.at) 49)) := heap_past _ _ _ _ (by simp <;> omega) (heap_past _ _ _ _ (by simp <;> omega) (heap_past _ _ _ _ (by simp <;> omega) (heap_at _ _ _ (by simp))))
  have T : Hid ((((((w.alloc (.cells (vrow 266 s.at) 36)).alloc (.cells (vrow 5 b.at) 49)).alloc (.cells (vrow 2 (spAt x y)) 33)).alloc (.cells (vrow 266 Sh.zero.at) 36)).alloc (.cells (vrow 5 Br.zero.at) 49)).heap[w.heap.size + 2]? = some (.cells (vrow 2 (spAt x y)) 33)) := heap_past _ _ _ _ (by simp <;> omega) (heap_past _ _ _ _ (by simp <;> omega) (heap_at _ _ _ (by simp)))
  have Z : Hid ((((((w.alloc (.cells (vrow 266 s.at) 36)).alloc (.cells (vrow 5 b.at) 49)).alloc (.cells (vrow 2 (spAt x y)) 33)).alloc (.cells (vrow 266 Sh.zero.at) 36)).alloc (.cells (vrow 5 Br.zero.at) 49)).heap[w.heap.size + 3]? = some (.cells (vrow 266 Sh.zero.at) 36)) := heap_past _ _ _ _ (by simp <;> omega) (heap_at _ _ _ (by simp))
  have Y : Hid ((((((w.alloc (.cells (vrow 266 s.at) 36)).alloc (.cells (vrow 5 b.at) 49)).alloc (.cells (vrow 2 (spAt x y)) 33)).alloc (.cells (vrow 266 Sh.zero.at) 36)).alloc (.cells (vrow 5 Br.zero.at) 49)).heap[w.heap.size + 4]? = some (.cells (vrow 5 Br.zero.at) 49)) := heap_at _ _ _ (by simp)
  have hB : Hid (Below w.heap.size w (((((w.alloc (.cells (vrow 266 s.at) 36)).alloc (.cells (vrow 5 b.at) 49)).alloc (.cells (vrow 2 (spAt x y)) 33)).alloc (.cells (vrow 266 Sh.zero.at) 36)).alloc (.cells (vrow 5 Br.zero.at) 49))) := ((((((Below.refl w.heap.size w).alloc (by simp <;> omega) _).alloc (by simp <;> omega) _).alloc (by simp <;> omega) _).alloc (by simp <;> omega) _).alloc (by simp <;> omega) _)
  have E : Hid (Errs e (((((w.alloc (.cells (vrow 266 s.at) 36)).alloc (.cells (vrow 5 b.at) 49)).alloc (.cells (vrow 2 (spAt x y)) 33)).alloc (.cells (vrow 266 Sh.zero.at) 36)).alloc (.cells (vrow 5 Br.zero.at) 49))) := ((((hE.alloc _).alloc _).alloc _).alloc _).alloc _
  rcases hc with rfl | rfl
  all_goals
    go_enter Tryd.func25, Tryd.ntmps25
    go_wp2_with (first
      | go_skip | ((with_reducible refine wlAt 13 rfl ?_); refine wpList_loadall rfl 36 (.tmp 4) rfl _ rfl 266 s.at 36 _ Tryd.underlying36 rfl size_sheet P.out ?_) | ((with_reducible refine wlAt 14 rfl ?_); refine wpList_loadall rfl 49 (.tmp 5) rfl _ rfl 5 b.at 49 _ Tryd.underlying49 rfl size_br R.out ?_) | ((with_reducible refine wlAt 15 rfl ?_); refine wpList_loadall rfl 33 (.tmp 6) rfl _ rfl 2 (spAt x y) 33 _ Tryd.underlying33 rfl size_spot T.out ?_) | (go_at_call 79; (refine (HC.out _ E.out).mono ?_); rintro o w1 ⟨rfl, hb⟩; replace P := Go.Lib.hid (row_next hb P.out); replace R := Go.Lib.hid (row_next hb R.out); replace T := Go.Lib.hid (row_next hb T.out); replace Z := Go.Lib.hid (row_next hb Z.out); replace Y := Go.Lib.hid (row_next hb Y.out); replace hB := Go.Lib.hid (below_next hB.out hb); replace E := Go.Lib.hid (E.out.next hb); clear hb)
      | (go_at_call 62; (refine (HD.out _ E.out).mono ?_); rintro o w2 ⟨rfl, hb⟩; replace P := Go.Lib.hid (row_next hb P.out); replace R := Go.Lib.hid (row_next hb R.out); replace T := Go.Lib.hid (row_next hb T.out); replace Z := Go.Lib.hid (row_next hb Z.out); replace Y := Go.Lib.hid (row_next hb Y.out); replace hB := Go.Lib.hid (below_next hB.out hb); replace E := Go.Lib.hid (E.out.next hb); clear hb)
      | ((with_reducible refine wlAt 20 rfl ?_); refine wpList_built rfl 36 [] rfl [] (by rfl) _ built_zsh2 ?_)
      | ((with_reducible refine wlAt 21 rfl ?_); refine wpList_built rfl 49 [] rfl [] (by rfl) _ built_zbr ?_)
      | ((with_reducible refine wlOp (.store 36 (.tmp 8) (.tmp 20)) rfl ?_); refine wpList_storeall rfl 36 (.tmp 8) (.tmp 20) rfl (w.heap.size + 3) rfl 266 Sh.zero.at Sh.zero.at rfl 36 size_sheet Z.out (fun i _ => Sh.one _ i) ?_; replace Y := Go.Lib.hid (row_set' (g := w.heap.size + 3) (show w.heap.size + 4 ≠ w.heap.size + 3 by omega) Y.out (vrow 266 Sh.zero.at)); replace Z := Go.Lib.hid (row_set Z.out (vrow 266 Sh.zero.at)); replace hB := Go.Lib.hid (Below_setRow hB.out (show w.heap.size ≤ w.heap.size + 3 by omega) (vrow 266 Sh.zero.at)))
      | ((with_reducible refine wlOp (.store 49 (.tmp 9) (.tmp 21)) rfl ?_); refine wpList_storeall rfl 49 (.tmp 9) (.tmp 21) rfl (w.heap.size + 4) rfl 5 Br.zero.at Br.zero.at rfl 49 size_br Y.out (fun i _ => Br.one _ i) ?_; replace Z := Go.Lib.hid (row_set' (g := w.heap.size + 4) (show w.heap.size + 3 ≠ w.heap.size + 4 by omega) Z.out (vrow 5 Br.zero.at)); replace Y := Go.Lib.hid (row_set Y.out (vrow 5 Br.zero.at)); replace hB := Go.Lib.hid (Below_setRow hB.out (show w.heap.size ≤ w.heap.size + 4 by omega) (vrow 5 Br.zero.at))))
    exact ret_rowsL Tryd.results25 (w.heap.size + 3) 266 Sh.zero.at 36 _ Tryd.underlying36 rfl size_sheet (w.heap.size + 4) 5 Br.zero.at 49 _ Tryd.underlying49 rfl size_br (.int .i64 _) rfl rfl rfl rfl Z.out Y.out ⟨rfl, hB.out⟩
set_option maxHeartbeats 8000000 in
theorem implLift_ok (s : Sh) (b : Br) (x y : Nat) (p : Int) (e : ErrE) (w : World) (hE : Errs e w) (hx : x < 8) (hy : y < 8) (hp : 0 ≤ p ∧ p ≤ 16) (hlb : b.lb) (hv : ∀ k, k < 3 → 0 ≤ s.dye (24 * y + 3 * x + k) ∧ s.dye (24 * y + 3 * x + k) ≤ 1000) (HC0 : ∀ w, Errs e w → Calls Tryd.prog 79 #[.agg s.row, .agg b.row, .agg (vrow 2 (spAt x y)), .int .i64 p] w fun o w' => o = .returned .nilIface ∧ Below w.heap.size w w') : Calls Tryd.prog 25 #[.agg s.row, .agg b.row, .agg (vrow 2 (spAt x y)), .int .i64 p] w fun o w' => o = .returned (.tuple #[.agg (liftH s b (24 * y + 3 * x) p 3).row, .agg (liftB s b (24 * y + 3 * x) p 3).row, .int .i64 0]) ∧ Below w.heap.size w w' := by
  have HC := Go.Lib.hid HC0
  have HL := Go.Lib.hid fun q m v hm => lift_any s b (pfn q) m x y p v hx hy hp hlb hv hm
  have zz := zero_br
  have zs := zero_sheet
  have zt := zero_st
  clear HC0 hp hlb hv
  have P : Hid ((((((w.alloc (.cells (vrow 266 s.at) 36)).alloc (.cells (vrow 5 b.at) 49)).alloc (.cells (vrow 2 (spAt x y)) 33)).alloc (.cells (vrow 266 Sh.zero.at) 36)).alloc (.cells (vrow 5 Br.zero.at) 49)).heap[w.heap.size]? = some (.cells (vrow 266 s.at) 36)) := heap_past _ _ _ _ (by simp <;> omega) (heap_past _ _ _ _ (by simp <;> omega) (heap_past _ _ _ _ (by simp <;> omega) (heap_past _ _ _ _ (by simp <;> omega) (heap_at _ _ _ (by simp)))))
  have R : Hid ((((((w.alloc (.cells (vrow 266 s.at) 36)).alloc (.cells (vrow 5 b.at) 49)).alloc (.cells (vrow 2 (spAt x y)) 33)).alloc (.cells (vrow 266 Sh.zero.at) 36)).alloc (.cells (vrow 5 Br.zero.at) 49)).heap[w.heap.size + 1]? = some (.cells (vrow 5 b.at) 49)) := heap_past _ _ _ _ (by simp <;> omega) (heap_past _ _ _ _ (by simp <;> omega) (heap_past _ _ _ _ (by simp <;> omega) (heap_at _ _ _ (by simp))))
  have T : Hid ((((((w.alloc (.cells (vrow 266 s.at) 36)).alloc (.cells (vrow 5 b.at) 49)).alloc (.cells (vrow 2 (spAt x y)) 33)).alloc (.cells (vrow 266 Sh.zero.at) 36)).alloc (.cells (vrow 5 Br.zero.at) 49)).heap[w.heap.size + 2]? = some (.cells (vrow 2 (spAt x y)) 33)) := heap_past _ _ _ _ (by simp <;> omega) (heap_past _ _ _ _ (by simp <;> omega) (heap_at _ _ _ (by simp)))
  have Z : Hid ((((((w.alloc (.cells (vrow 266 s.at) 36)).alloc (.cells (vrow 5 b.at) 49)).alloc (.cells (vrow 2 (spAt x y)) 33)).alloc (.cells (vrow 266 Sh.zero.at) 36)).alloc (.cells (vrow 5 Br.zero.at) 49)).heap[w.heap.size + 3]? = some (.cells (vrow 266 Sh.zero.at) 36)) := heap_past _ _ _ _ (by simp <;> omega) (heap_at _ _ _ (by simp))
  have Y : Hid ((((((w.alloc (.cells (vrow 266 s.at) 36)).alloc (.cells (vrow 5 b.at) 49)).alloc (.cells (vrow 2 (spAt x y)) 33)).alloc (.cells (vrow 266 Sh.zero.at) 36)).alloc (.cells (vrow 5 Br.zero.at) 49)).heap[w.heap.size + 4]? = some (.cells (vrow 5 Br.zero.at) 49)) := heap_at _ _ _ (by simp)
  have hB : Hid (Below w.heap.size w (((((w.alloc (.cells (vrow 266 s.at) 36)).alloc (.cells (vrow 5 b.at) 49)).alloc (.cells (vrow 2 (spAt x y)) 33)).alloc (.cells (vrow 266 Sh.zero.at) 36)).alloc (.cells (vrow 5 Br.zero.at) 49))) := ((((((Below.refl w.heap.size w).alloc (by simp <;> omega) _).alloc (by simp <;> omega) _).alloc (by simp <;> omega) _).alloc (by simp <;> omega) _).alloc (by simp <;> omega) _)
  have E : Hid (Errs e (((((w.alloc (.cells (vrow 266 s.at) 36)).alloc (.cells (vrow 5 b.at) 49)).alloc (.cells (vrow 2 (spAt x y)) 33)).alloc (.cells (vrow 266 Sh.zero.at) 36)).alloc (.cells (vrow 5 Br.zero.at) 49))) := ((((hE.alloc _).alloc _).alloc _).alloc _).alloc _
  go_enter Tryd.func25, Tryd.ntmps25
  go_wp2_with (first
    | go_skip | ((with_reducible refine wlAt 13 rfl ?_); refine wpList_loadall rfl 36 (.tmp 4) rfl _ rfl 266 s.at 36 _ Tryd.underlying36 rfl size_sheet P.out ?_) | ((with_reducible refine wlAt 14 rfl ?_); refine wpList_loadall rfl 49 (.tmp 5) rfl _ rfl 5 b.at 49 _ Tryd.underlying49 rfl size_br R.out ?_) | ((with_reducible refine wlAt 15 rfl ?_); refine wpList_loadall rfl 33 (.tmp 6) rfl _ rfl 2 (spAt x y) 33 _ Tryd.underlying33 rfl size_spot T.out ?_) | (go_at_call 79; (refine (HC.out _ E.out).mono ?_); rintro o w1 ⟨rfl, hb⟩; replace P := Go.Lib.hid (row_next hb P.out); replace R := Go.Lib.hid (row_next hb R.out); replace T := Go.Lib.hid (row_next hb T.out); replace Z := Go.Lib.hid (row_next hb Z.out); replace Y := Go.Lib.hid (row_next hb Y.out); replace hB := Go.Lib.hid (below_next hB.out hb); replace E := Go.Lib.hid (E.out.next hb); clear hb)
    | ((with_reducible refine wlAt 24 rfl ?_); refine wpList_loadall rfl 49 (.tmp 5) rfl _ rfl 5 b.at 49 _ Tryd.underlying49 rfl size_br R.out ?_)
    | ((with_reducible refine wlAt 25 rfl ?_); refine wpList_loadall rfl 36 (.tmp 4) rfl _ rfl 266 s.at 36 _ Tryd.underlying36 rfl size_sheet P.out ?_)
    | (go_at_call 80; (refine (on_any b s _).mono ?_); rintro o w5 ⟨⟨q, rfl⟩, hb⟩; replace P := Go.Lib.hid (row_next hb P.out); replace R := Go.Lib.hid (row_next hb R.out); replace T := Go.Lib.hid (row_next hb T.out); replace Z := Go.Lib.hid (row_next hb Z.out); replace Y := Go.Lib.hid (row_next hb Y.out); replace hB := Go.Lib.hid (below_next hB.out hb); replace E := Go.Lib.hid (E.out.next hb); clear hb)
    | ((with_reducible refine wlOp (.store 134 (.tmp 12) (.tmp 26)) rfl ?_); refine wpList_storeall rfl 134 (.tmp 12) (.tmp 26) rfl _ rfl 272 (stAt Br.zero Sh.zero .nilFunc) (stAt b s (pfn q)) rfl 134 size_st (heap_at _ _ _ rfl) (fun i _ => stAt_one _ _ _ i) ?_; rw [setRow_at _ _ _ _ _ rfl]; have V := Go.Lib.hid (heap_at w5 (.cells (vrow 272 (stAt b s (pfn q))) 134) _ rfl); have nY := row_lt Y.out; replace T := Go.Lib.hid (heap_past _ (.cells (vrow 272 (stAt b s (pfn q))) 134) _ _ (row_lt T.out) T.out); replace Z := Go.Lib.hid (heap_past _ (.cells (vrow 272 (stAt b s (pfn q))) 134) _ _ (row_lt Z.out) Z.out); replace Y := Go.Lib.hid (heap_past _ (.cells (vrow 272 (stAt b s (pfn q))) 134) _ _ (row_lt Y.out) Y.out); replace hB := Go.Lib.hid (hB.out.alloc hB.out.size (.cells (vrow 272 (stAt b s (pfn q))) 134)); clear P R E; generalize w5.heap.size = nb at V nY ⊢; generalize w5.alloc _ = w6 at T Z Y V hB ⊢)
    | ((with_reducible refine wlAt 27 rfl ?_); refine wpList_loadall rfl 33 (.tmp 6) rfl _ rfl 2 (spAt x y) 33 _ Tryd.underlying33 rfl size_spot T.out ?_)
    | (go_at_call 81; (refine (HL.out q nb _ V.out).mono ?_); rintro o w7 ⟨⟨rr, rfl⟩, hg, hv7⟩; replace Z := Go.Lib.hid ((hg.block _ (row_lt Z.out) (by simp <;> omega)).trans Z.out); replace Y := Go.Lib.hid ((hg.block _ (row_lt Y.out) (by simp <;> omega)).trans Y.out); replace hB := Go.Lib.hid (hB.out.grown hg hB.out.size (fun q hq => by cases hq; omega)); replace V := Go.Lib.hid hv7; clear hg hv7 T))
  refine Code.wp_mono (Q := fun e a' W' => e = .normal ∧ a'.tmps.getD 8 undef = .pointer (some ⟨w.heap.size + 3, 0, none⟩) ∧ a'.tmps.getD 9 undef = .pointer (some ⟨w.heap.size + 4, 0, none⟩) ∧ a'.tmps.getD 10 undef = .int .i64 0 ∧ a'.defers = [] ∧ Below w.heap.size w W' ∧ W'.heap[w.heap.size + 3]? = some (.cells (vrow 266 (liftH s b (24 * y + 3 * x) p 3).at) 36) ∧ W'.heap[w.heap.size + 4]? = some (.cells (vrow 5 (liftB s b (24 * y + 3 * x) p 3).at) 49)) ?_ ?_
  rotate_left
  · refine wp_region_held_drew (S := fun W' => Below w.heap.size w W' ∧ W'.heap[nb]? = some (.cells (vrow 272 (stAt (liftB s b (24 * y + 3 * x) p 3) (liftH s b (24 * y + 3 * x) p 3) (pfn q))) 134)) (by kernel_rfl) ⟨hB.out.drew, V.out⟩ (fun hH => ?_)
    have V8 := drwL Z.out
    have V9 := drwL Y.out
    generalize World.drew _ = W at hH V8 V9 ⊢
    refine wpAnyH_take (i := 0) (v := (.pointer (some ⟨nb, 5, none⟩))) rfl (by kernel_rfl) (by kernel_rfl) (by kernel_rfl) (fun _ _ _ h => by cases h.1) (.inl ⟨by rfl, fun w _ => by go_simp⟩) hH ?_
    (try simp only [Act.put, List.setIfInBounds_toArray, List.set_cons_succ, List.set_cons_zero])
    refine wpAnyH_take (i := 1) (v := (.agg (vrow 266 (liftH s b (24 * y + 3 * x) p 3).at))) rfl (by kernel_rfl) (by kernel_rfl) (by kernel_rfl) (fun _ _ _ h => by cases h.1) (yields_m (by rfl) 36 _ rfl nb 5 rfl 272 266 (stAt (liftB s b (24 * y + 3 * x) p 3) (liftH s b (24 * y + 3 * x) p 3) (pfn q)) _ (by omega) 134 _ Tryd.underlying36 rfl size_sheet (stAt_s _ _ _) (fun _ h => h.2)) hH ?_
    (try simp only [Act.put, List.setIfInBounds_toArray, List.set_cons_succ, List.set_cons_zero])
    refine wpAnyH_take (i := 2) (v := (.pointer (some ⟨nb, 0, none⟩))) rfl (by kernel_rfl) (by kernel_rfl) (by kernel_rfl) (fun _ _ _ h => by cases h.1) (.inl ⟨by rfl, fun w _ => by go_simp⟩) hH ?_
    (try simp only [Act.put, List.setIfInBounds_toArray, List.set_cons_succ, List.set_cons_zero])
    refine wpAnyH_take (i := 3) (v := (.agg (vrow 5 (liftB s b (24 * y + 3 * x) p 3).at))) rfl (by kernel_rfl) (by kernel_rfl) (by kernel_rfl) (fun _ _ _ h => by cases h.1) (yields_m (by rfl) 49 _ rfl nb 0 rfl 272 5 (stAt (liftB s b (24 * y + 3 * x) p 3) (liftH s b (24 * y + 3 * x) p 3) (pfn q)) _ (by omega) 134 _ Tryd.underlying49 rfl size_br (stAt_b _ _ _) (fun _ h => h.2)) hH ?_
    (try simp only [Act.put, List.setIfInBounds_toArray, List.set_cons_succ, List.set_cons_zero])
    refine wpAnyH_ready (rs := [4]) (by kernel_rfl) (by simp) (AllReadyH.cons rfl (fun K hK => ?_) AllReadyH.nil)
    rw [if_pos (by rfl)]
    unfold Oper.wp
    rw [run_storemid 36 (.tmp 8) (.tmp 31) rfl (w.heap.size + 3) 0 rfl 266 266 Sh.zero.at (liftH s b (24 * y + 3 * x) p 3).at rfl 36 size_sheet V8 (by omega) (fun i _ => Sh.one _ i), vrow_over_all, Oper.upon_skip]
    replace V8 := row_set V8 (vrow 266 (liftH s b (24 * y + 3 * x) p 3).at)
    replace V9 := row_set' (show w.heap.size + 4 ≠ w.heap.size + 3 by omega) V9 (vrow 266 (liftH s b (24 * y + 3 * x) p 3).at)
    have hH2 : Below w.heap.size w (W.setRow (w.heap.size + 3) (vrow 266 (liftH s b (24 * y + 3 * x) p 3).at)) ∧ (W.setRow (w.heap.size + 3) (vrow 266 (liftH s b (24 * y + 3 * x) p 3).at)).heap[nb]? = some (.cells (vrow 272 (stAt (liftB s b (24 * y + 3 * x) p 3) (liftH s b (24 * y + 3 * x) p 3) (pfn q))) 134) := ⟨Below_setRow hH.1 (by omega) _, row_set' (by omega) hH.2 _⟩
    refine hK.out _ _ hH2 (fun hH => ?_)
    clear hK K hH2
    (try simp only [Act.put, List.setIfInBounds_toArray, List.set_cons_succ, List.set_cons_zero])
    generalize (W.setRow (w.heap.size + 3) (vrow 266 (liftH s b (24 * y + 3 * x) p 3).at)) = Y0 at hH V8 V9 ⊢
    refine wpAnyH_ready (rs := [5]) (by kernel_rfl) (by simp) (AllReadyH.cons rfl (fun K hK => ?_) AllReadyH.nil)
    rw [if_pos (by rfl)]
    unfold Oper.wp
    rw [run_storemid 49 (.tmp 9) (.tmp 33) rfl (w.heap.size + 4) 0 rfl 5 5 Br.zero.at (liftB s b (24 * y + 3 * x) p 3).at rfl 49 size_br V9 (by omega) (fun i _ => Br.one _ i), vrow_over_all, Oper.upon_skip]
    replace V8 := row_set' (show w.heap.size + 3 ≠ w.heap.size + 4 by omega) V8 (vrow 5 (liftB s b (24 * y + 3 * x) p 3).at)
    replace V9 := row_set V9 (vrow 5 (liftB s b (24 * y + 3 * x) p 3).at)
    have hH2 : Below w.heap.size w (Y0.setRow (w.heap.size + 4) (vrow 5 (liftB s b (24 * y + 3 * x) p 3).at)) ∧ (Y0.setRow (w.heap.size + 4) (vrow 5 (liftB s b (24 * y + 3 * x) p 3).at)).heap[nb]? = some (.cells (vrow 272 (stAt (liftB s b (24 * y + 3 * x) p 3) (liftH s b (24 * y + 3 * x) p 3) (pfn q))) 134) := ⟨Below_setRow hH.1 (by omega) _, row_set' (by omega) hH.2 _⟩
    refine hK.out _ _ hH2 (fun hH => ?_)
    clear hK K hH2
    (try simp only [Act.put, List.setIfInBounds_toArray, List.set_cons_succ, List.set_cons_zero])
    generalize (Y0.setRow (w.heap.size + 4) (vrow 5 (liftB s b (24 * y + 3 * x) p 3).at)) = Y1 at hH V8 V9 ⊢
    refine wpAnyH_take (i := 6) (v := (.int .i64 0)) rfl (by kernel_rfl) (by kernel_rfl) (by kernel_rfl) (fun _ _ _ h => by cases h.1) (.inl ⟨by rfl, fun w _ => by go_simp⟩) hH ?_
    (try simp only [Act.put, List.setIfInBounds_toArray, List.set_cons_succ, List.set_cons_zero])
    refine wpAnyH_done (by kernel_rfl) ?_ _
    exact ⟨rfl, rfl, rfl, rfl, rfl, hH.1, V8, V9⟩
  rintro e1 a1 W1 ⟨rfl, h_8, h_9, h_10, hdf, hB1, V8, V9⟩
  go_wp2
  exact ret_rowsL Tryd.results25 (w.heap.size + 3) 266 (liftH s b (24 * y + 3 * x) p 3).at 36 _ Tryd.underlying36 rfl size_sheet (w.heap.size + 4) 5 (liftB s b (24 * y + 3 * x) p 3).at 49 _ Tryd.underlying49 rfl size_br (.int .i64 0) h_8 h_9 h_10 hdf V8 V9 ⟨rfl, hB1⟩
end Go.Proofs.YtfgcpiipndhllaaDoor
