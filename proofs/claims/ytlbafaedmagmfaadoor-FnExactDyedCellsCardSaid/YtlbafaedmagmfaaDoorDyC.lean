import Derived.Test.YtlbafaedmagmfaaDoorChos
import Derived.Test.YtlbafaedmagmfaaDoorFirstD
import Derived.Test.YtlbafaedmagmfaaDoorSlPs
import Derived.Test.YtlbafaedmagmfaaDoorPathK
import Derived.Test.YtlbafaedmagmfaaDoorCodeOf
import Derived.Test.YtlbafaedmagmfaaDoorOkEq
namespace Go.Proofs.YtlbafaedmagmfaaDoor
open Go.RowKit
set_option maxRecDepth 100000
set_option linter.unusedVariables false
set_option linter.unusedSimpArgs false
theorem rw_i64c : (Tryd.prog.underlying 2).map (·.isRow) = some false := by kernel_rfl
set_option maxHeartbeats 1000000 in
theorem dcl_any (s : Sh) (b b2 : Nat) (least : Int) (x y : Nat) (w : World) (hs2 : w.heap[b2]? = some (.cells (vrow 1 fun _ => .int .i64 least) 2)) (hs : w.heap[b]? = some (.cells s.row 35)) (hf : s.fit) (hv : okI s = true) (hx : x < 8) (hy : y < 8) : Calls Tryd.prog 120 #[.agg (vrow 2 (spAt x y)), .pointer (some ⟨b, 0, none⟩), .pointer (some ⟨b2, 0, none⟩)] w fun e w' => e = .returned (.bool (decide (least ≤ darkB s x y))) ∧ Below w.heap.size w w' := by
  have hd : ∀ i, i < 3 → 0 ≤ (fun i => s.dye (24 * y + 3 * x + i)) i ∧ (fun i => s.dye (24 * y + 3 * x + i)) i ≤ 1000 := by
    obtain ⟨_, hd0, hd1, hd2⟩ := ok_bounds s hv x y hx hy
    intro i hi
    have : i = 0 ∨ i = 1 ∨ i = 2 := by omega
    rcases this with rfl | rfl | rfl <;> assumption
  have HD0 := fun w => darkness_any (fun i => s.dye (24 * y + 3 * x + i)) hd w
  rw [dsum_dark] at HD0
  have HD := Go.Lib.hid HD0
  clear HD0 hd
  have hB : Hid (Below w.heap.size w (w.alloc (.cells (vrow 2 (spAt x y)) 48))) := ((Below.refl w.heap.size w).alloc (by simp <;> omega) _)
  have R : Hid ((w.alloc (.cells (vrow 2 (spAt x y)) 48)).heap[(w.heap.size)]? = some (.cells (vrow 2 (spAt x y)) 48)) := heap_at _ _ _ (by simp)
  have P : Hid ((w.alloc (.cells (vrow 2 (spAt x y)) 48)).heap[b]? = some (.cells (vrow 266 s.at) 35)) := heap_past _ _ _ _ (by first | (have := row_lt hs; omega) | (have := row_lt hs; simp <;> omega)) (hs)
  have Q : Hid ((w.alloc (.cells (vrow 2 (spAt x y)) 48)).heap[b2]? = some (.cells (vrow 1 fun _ => .int .i64 least) 2)) := heap_past _ _ _ _ (row_lt hs2) hs2
  go_enter Tryd.func120, Tryd.ntmps120
  go_wp2
  (refine region_at (by kernel_rfl) (by kernel_rfl) ?_; intro W hW; rw [hW] at hB P R Q; clear hW; have P' := Go.Lib.hid (cls_row' P.out); have R' := Go.Lib.hid (cls_row' R.out); have Q' := Go.Lib.hid (cls_row' Q.out); (repeat (first | go_big_quiet_skip | (refine wpQuiet_loadmid 26 _ rfl (by first | exact want_n rfl | exact want_g _ _ _ rfl rfl rfl) b _ rfl 266 3 s.at _ rw_d3 size_d3 P'.out (by omega) ?_; rw [Sh.at_d3 _ _ (24 * y + 3 * x) (by omega) (by omega)]; simp only [Act.put, List.setIfInBounds_toArray, List.set_cons_succ, List.set_cons_zero]) | (refine wpQuiet_load1 22 _ rfl (by first | exact want_n rfl | exact want_g _ _ _ rfl rfl rfl) (w.heap.size) _ rfl 2 (spAt x y) _ rw_i8 R'.out (by omega) ?_; (first | rw [spAt_0] | rw [spAt_1]); simp only [Act.put, List.setIfInBounds_toArray, List.set_cons_succ, List.set_cons_zero]) | (refine wpQuiet_load1 2 _ rfl (by first | exact want_n rfl | exact want_g _ _ _ rfl rfl rfl) b2 _ rfl 1 (fun _ => .int .i64 least) _ rw_i64c Q'.out (by omega) ?_; simp only [Act.put, List.setIfInBounds_toArray, List.set_cons_succ, List.set_cons_zero]) | go_big_quiet_step ((go_at_call 121; exact cls_call _ (fun w hw => HD.out w))))); refine wpQuiet_nil ?_; intro Wn hb; replace P := Go.Lib.hid (row_next hb P.out); replace R := Go.Lib.hid (row_next hb R.out); replace hB := Go.Lib.hid (below_next hB.out hb); clear hb P' R' Q')
  go_wp2
  go_ret
  exact ⟨rfl, hB.out⟩
def dyl (s : Sh) (least : Int) (a c : Nat) : List Sp8 := fl (fun x y => decide (least ≤ darkB s x y)) (cellsL a c)
theorem darkCells_any (s : Sh) (least : Int) (a c : Nat) (w : World) (hf : s.fit) (hv : okI s = true) (ea : s.wide = a) (ec : s.high = c) (ha : a ≤ 8) (hc : c ≤ 8) : Calls Tryd.prog 62 #[.agg s.row, .int .i64 least] w fun e w' => ∃ v, e = .returned v ∧ w'.ownsRow w.heap.size 48 2 v (dyl s least a c).length (vals (dyl s least a c)) ∧ Below w.heap.size w w' := by
  have hmf : ∀ (fn : Fn) (first cap : Array Value) (w : World), (Instr.makeFunc fn first cap).run Tryd.prog w = .ok (.func fn first cap) w := fun _ _ _ _ => rfl
  have HCH : Hid (∀ W, W.heap[w.heap.size]? = some (.cells (vrow 266 s.at) 35) → W.heap[w.heap.size + 1]? = some (.cells (vrow 1 fun _ => .int .i64 least) 2) → Calls Tryd.prog 72 #[.agg s.row, .func (.func 120) #[] #[.pointer (some ⟨w.heap.size, 0, none⟩), .pointer (some ⟨w.heap.size + 1, 0, none⟩)]] W fun e w' => ∃ v, e = .returned v ∧ w'.ownsRow W.heap.size 48 2 v (dyl s least a c).length (vals (dyl s least a c)) ∧ Below W.heap.size W w') :=
    Go.Lib.hid fun W h1 h2 => chosen_any s a c (fun x y => decide (least ≤ darkB s x y)) 120 #[.pointer (some ⟨w.heap.size, 0, none⟩), .pointer (some ⟨w.heap.size + 1, 0, none⟩)] W ea ec ha hc (fun _ _ => by kernel_rfl) fun x y W' hx hy hb => dcl_any s w.heap.size (w.heap.size + 1) least x y W' (row_next hb h2) (row_next hb h1) hf hv (by omega) (by omega)
  have hB : Hid (Below w.heap.size w ((w.alloc (.cells (vrow 266 s.at) 35)).alloc (.cells (vrow 1 fun _ => .int .i64 least) 2))) := Go.Lib.hid (((Below.refl w.heap.size w).alloc (by simp <;> omega) _).alloc (by simp <;> omega) _)
  have P : Hid (((w.alloc (.cells (vrow 266 s.at) 35)).alloc (.cells (vrow 1 fun _ => .int .i64 least) 2)).heap[w.heap.size]? = some (.cells (vrow 266 s.at) 35)) := heap_past _ _ _ _ (by simp <;> omega) (heap_at _ _ _ (by simp))
  have Q : Hid (((w.alloc (.cells (vrow 266 s.at) 35)).alloc (.cells (vrow 1 fun _ => .int .i64 least) 2)).heap[w.heap.size + 1]? = some (.cells (vrow 1 fun _ => .int .i64 least) 2)) := heap_at _ _ _ (by simp)
  go_enter Tryd.func62, Tryd.ntmps62
  go_wp2_with (first
    | go_skip
    | ((with_reducible refine wlAt 5 rfl ?_); refine wpList_loadall rfl 35 (.tmp 2) rfl w.heap.size rfl 266 s.at 35 _ Tryd.underlying35 rfl size_sheet P.out ?_)
    | (go_at_call 72; (refine (HCH.out _ P.out Q.out).mono ?_); rintro o w1 ⟨v, rfl, hO, hb⟩; have hbs := hB.out.size; replace hB := Go.Lib.hid (below_next hB.out hb)))
  go_ret
  exact ⟨v, rfl, own_mono hbs hO, hB.out⟩
set_option maxHeartbeats 1000000 in
theorem ckLeast_bad (s : Sh) (least : Int) (e : ErrE) (w : World) (hE : Errs e w) (hv : okI s = false) (hf : s.fit := by assumption) : Calls Tryd.prog 60 #[.agg s.row, .int .i64 least] w fun o w' => o = .returned (errP e 1) ∧ Below w.heap.size w w' := by
  have HS := Go.Lib.hid fun w h => checkSheet_bad s hv e w h
  have hB : Hid (Below w.heap.size w (w.alloc (.cells (vrow 266 s.at) 35))) := Go.Lib.hid ((Below.refl w.heap.size w).alloc (by simp <;> omega) _)
  have P : Hid ((w.alloc (.cells (vrow 266 s.at) 35)).heap[w.heap.size]? = some (.cells (vrow 266 s.at) 35)) := heap_at _ _ _ (by simp)
  go_enter Tryd.func60, Tryd.ntmps60
  go_wp2_with (first
    | go_skip
    | ((with_reducible refine wlAt 6 rfl ?_); refine wpList_loadall rfl 35 (.tmp 2) rfl w.heap.size rfl 266 s.at 35 _ Tryd.underlying35 rfl size_sheet P.out ?_)
    | (go_at_call 64; (refine (HS.out _ (hE.next hB.out)).mono ?_); rintro o w1 ⟨rfl, hb⟩; replace hB := Go.Lib.hid (below_next hB.out hb); clear hb)
    | ((with_reducible refine wlAt 17 rfl ?_); refine wpList_ld1 90 _ rfl (by first | exact want_n rfl | exact want_g _ _ _ rfl rfl rfl) 0 0 rfl 1 (fun _ => errP e 2) _ rw_err (hE.next hB.out).v2 (by omega) ?_))
  go_ret
  exact ⟨rfl, hB.out⟩
set_option maxHeartbeats 1000000 in
theorem ckLeast_lo (s : Sh) (least : Int) (e : ErrE) (w : World) (hE : Errs e w) (hv : okI s = true) (h1 : decide (least < 1) = true) : Calls Tryd.prog 60 #[.agg s.row, .int .i64 least] w fun o w' => o = .returned (errP e 2) ∧ Below w.heap.size w w' := by
  have HS := Go.Lib.hid fun w h => checkSheet_ok s hv e w h
  have hB : Hid (Below w.heap.size w (w.alloc (.cells (vrow 266 s.at) 35))) := Go.Lib.hid ((Below.refl w.heap.size w).alloc (by simp <;> omega) _)
  have P : Hid ((w.alloc (.cells (vrow 266 s.at) 35)).heap[w.heap.size]? = some (.cells (vrow 266 s.at) 35)) := heap_at _ _ _ (by simp)
  go_enter Tryd.func60, Tryd.ntmps60
  go_wp2_with (first
    | go_skip
    | ((with_reducible refine wlAt 6 rfl ?_); refine wpList_loadall rfl 35 (.tmp 2) rfl w.heap.size rfl 266 s.at 35 _ Tryd.underlying35 rfl size_sheet P.out ?_)
    | (go_at_call 64; (refine (HS.out _ (hE.next hB.out)).mono ?_); rintro o w1 ⟨rfl, hb⟩; replace hB := Go.Lib.hid (below_next hB.out hb); clear hb)
    | ((with_reducible refine wlAt 17 rfl ?_); refine wpList_ld1 90 _ rfl (by first | exact want_n rfl | exact want_g _ _ _ rfl rfl rfl) 0 0 rfl 1 (fun _ => errP e 2) _ rw_err (hE.next hB.out).v2 (by omega) ?_))
  go_ret
  exact ⟨rfl, hB.out⟩
set_option maxHeartbeats 1000000 in
theorem ckLeast_hi (s : Sh) (least : Int) (e : ErrE) (w : World) (hE : Errs e w) (hv : okI s = true) (h1 : decide (least < 1) = false) (h2 : decide (3000 < least) = true) : Calls Tryd.prog 60 #[.agg s.row, .int .i64 least] w fun o w' => o = .returned (errP e 2) ∧ Below w.heap.size w w' := by
  have HS := Go.Lib.hid fun w h => checkSheet_ok s hv e w h
  have hB : Hid (Below w.heap.size w (w.alloc (.cells (vrow 266 s.at) 35))) := Go.Lib.hid ((Below.refl w.heap.size w).alloc (by simp <;> omega) _)
  have P : Hid ((w.alloc (.cells (vrow 266 s.at) 35)).heap[w.heap.size]? = some (.cells (vrow 266 s.at) 35)) := heap_at _ _ _ (by simp)
  go_enter Tryd.func60, Tryd.ntmps60
  go_wp2_with (first
    | go_skip
    | ((with_reducible refine wlAt 6 rfl ?_); refine wpList_loadall rfl 35 (.tmp 2) rfl w.heap.size rfl 266 s.at 35 _ Tryd.underlying35 rfl size_sheet P.out ?_)
    | (go_at_call 64; (refine (HS.out _ (hE.next hB.out)).mono ?_); rintro o w1 ⟨rfl, hb⟩; replace hB := Go.Lib.hid (below_next hB.out hb); clear hb)
    | ((with_reducible refine wlAt 17 rfl ?_); refine wpList_ld1 90 _ rfl (by first | exact want_n rfl | exact want_g _ _ _ rfl rfl rfl) 0 0 rfl 1 (fun _ => errP e 2) _ rw_err (hE.next hB.out).v2 (by omega) ?_))
  go_ret
  exact ⟨rfl, hB.out⟩
set_option maxHeartbeats 1000000 in
theorem ckLeast_ok (s : Sh) (least : Int) (e : ErrE) (w : World) (hE : Errs e w) (hv : okI s = true) (h1 : decide (least < 1) = false) (h2 : decide (3000 < least) = false) : Calls Tryd.prog 60 #[.agg s.row, .int .i64 least] w fun o w' => o = .returned (.nilIface) ∧ Below w.heap.size w w' := by
  have HS := Go.Lib.hid fun w h => checkSheet_ok s hv e w h
  have hB : Hid (Below w.heap.size w (w.alloc (.cells (vrow 266 s.at) 35))) := Go.Lib.hid ((Below.refl w.heap.size w).alloc (by simp <;> omega) _)
  have P : Hid ((w.alloc (.cells (vrow 266 s.at) 35)).heap[w.heap.size]? = some (.cells (vrow 266 s.at) 35)) := heap_at _ _ _ (by simp)
  go_enter Tryd.func60, Tryd.ntmps60
  go_wp2_with (first
    | go_skip
    | ((with_reducible refine wlAt 6 rfl ?_); refine wpList_loadall rfl 35 (.tmp 2) rfl w.heap.size rfl 266 s.at 35 _ Tryd.underlying35 rfl size_sheet P.out ?_)
    | (go_at_call 64; (refine (HS.out _ (hE.next hB.out)).mono ?_); rintro o w1 ⟨rfl, hb⟩; replace hB := Go.Lib.hid (below_next hB.out hb); clear hb)
    | ((with_reducible refine wlAt 17 rfl ?_); refine wpList_ld1 90 _ rfl (by first | exact want_n rfl | exact want_g _ _ _ rfl rfl rfl) 0 0 rfl 1 (fun _ => errP e 2) _ rw_err (hE.next hB.out).v2 (by omega) ?_))
  go_ret
  exact ⟨rfl, hB.out⟩
set_option maxHeartbeats 1000000 in
theorem implDC_err (s : Sh) (least : Int) (k : Nat) (c : Int) (e : ErrE) (w : World) (hE : Errs e w) (hc0 : ∀ w, Errs e w → Calls Tryd.prog 60 #[.agg s.row, .int .i64 least] w fun o w' => o = .returned (errP e k) ∧ Below w.heap.size w w') (hd0 : ∀ w, Errs e w → Calls Tryd.prog 61 #[errP e k] w fun o w' => o = .returned (.int .i64 c) ∧ Below w.heap.size w w') : Calls Tryd.prog 17 #[.agg s.row, .int .i64 least] w fun o w' => o = .returned (.tuple #[.slice none 0 0, .int .i64 c]) ∧ Below w.heap.size w w' := by
  have HS := Go.Lib.hid hc0
  have HD := Go.Lib.hid hd0
  clear hc0 hd0
  have hB : Hid (Below w.heap.size w (w.alloc (.cells (vrow 266 s.at) 35))) := Go.Lib.hid ((Below.refl w.heap.size w).alloc (by simp <;> omega) _)
  have P : Hid ((w.alloc (.cells (vrow 266 s.at) 35)).heap[w.heap.size]? = some (.cells (vrow 266 s.at) 35)) := heap_at _ _ _ (by simp)
  go_enter Tryd.func17, Tryd.ntmps17
  go_wp2_with (first
    | go_skip
    | ((with_reducible refine wlAt 7 rfl ?_); refine wpList_loadall rfl 35 (.tmp 2) rfl w.heap.size rfl 266 s.at 35 _ Tryd.underlying35 rfl size_sheet P.out ?_)
    | (go_at_call 60; (refine (HS.out _ (hE.next hB.out)).mono ?_); rintro o w1 ⟨rfl, hb⟩; replace hB := Go.Lib.hid (below_next hB.out hb); clear hb)
    | (go_at_call 61; (refine (HD.out _ (hE.next hB.out)).mono ?_); rintro o w1 ⟨rfl, hb⟩; replace hB := Go.Lib.hid (below_next hB.out hb); clear hb))
  go_ret2
  exact ⟨rfl, hB.out⟩
set_option maxHeartbeats 1000000 in
theorem implDC_ok (s : Sh) (least : Int) (a c : Nat) (e : ErrE) (w : World) (hE : Errs e w) (hf : s.fit) (hv : okI s = true) (ea : s.wide = a) (ec : s.high = c) (ha : a ≤ 8) (hc : c ≤ 8) (hc0 : ∀ w, Errs e w → Calls Tryd.prog 60 #[.agg s.row, .int .i64 least] w fun o w' => o = .returned .nilIface ∧ Below w.heap.size w w') : Calls Tryd.prog 17 #[.agg s.row, .int .i64 least] w fun o w' => ∃ v, o = .returned (.tuple #[v, .int .i64 0]) ∧ w'.ownsRow w.heap.size 48 2 v (dyl s least a c).length (vals (dyl s least a c)) ∧ Below w.heap.size w w' := by
  have HS := Go.Lib.hid hc0
  have HD := Go.Lib.hid fun w => darkCells_any s least a c w hf hv ea ec ha hc
  clear hc0 ea ec
  have hB : Hid (Below w.heap.size w (w.alloc (.cells (vrow 266 s.at) 35))) := Go.Lib.hid ((Below.refl w.heap.size w).alloc (by simp <;> omega) _)
  have P : Hid ((w.alloc (.cells (vrow 266 s.at) 35)).heap[w.heap.size]? = some (.cells (vrow 266 s.at) 35)) := heap_at _ _ _ (by simp)
  go_enter Tryd.func17, Tryd.ntmps17
  go_wp2_with (first
    | go_skip
    | ((with_reducible refine wlAt 7 rfl ?_); refine wpList_loadall rfl 35 (.tmp 2) rfl w.heap.size rfl 266 s.at 35 _ Tryd.underlying35 rfl size_sheet P.out ?_)
    | ((with_reducible refine wlAt 14 rfl ?_); refine wpList_loadall rfl 35 (.tmp 2) rfl w.heap.size rfl 266 s.at 35 _ Tryd.underlying35 rfl size_sheet P.out ?_)
    | (go_at_call 60; (refine (HS.out _ (hE.next hB.out)).mono ?_); rintro o w1 ⟨rfl, hb⟩; replace P := Go.Lib.hid (row_next hb P.out); replace hB := Go.Lib.hid (below_next hB.out hb); clear hb)
    | (go_at_call 62; (refine (HD.out _).mono ?_); rintro o w2 ⟨v, rfl, hO, hb⟩; have hbs := hB.out.size; replace hB := Go.Lib.hid (below_next hB.out hb); clear hb))
  go_ret2
  exact ⟨v, rfl, own_mono hbs hO, hB.out⟩
end Go.Proofs.YtlbafaedmagmfaaDoor
