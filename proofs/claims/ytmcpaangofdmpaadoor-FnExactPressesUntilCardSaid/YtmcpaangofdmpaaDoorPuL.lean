import Derived.Test.YtmcpaangofdmpaaDoorPU1
import Derived.Test.YtmcpaangofdmpaaDoorPairB
import Derived.Test.YtmcpaangofdmpaaDoorUnlU
import Derived.Test.YtmcpaangofdmpaaDoorCodeOf
import Derived.Test.YtmcpaangofdmpaaDoorPartS
import Derived.Test.YtmcpaangofdmpaaDoorPrL
namespace Go.Proofs.YtmcpaangofdmpaaDoor
open Go.RowKit
set_option maxRecDepth 100000
set_option linter.unusedVariables false
set_option linter.unusedSimpArgs false
set_option maxHeartbeats 2000000 in
theorem pu_bad (s : Sh) (ax : Int) (d : Bool) (pr off : Int) (w : World) (hf : s.fit) (hv : (okI s && foldOk s ax d pr) = false) : Calls Tryd.prog 60 #[.agg s.row, .agg (vrow 3 (foAt ax d pr)), .int .i64 off] w fun e w' => e = .panicked [{ v := .iface 179 (.agg #[.int .i8 ax, .bool d, .int .i8 pr]), recovered := false }] ∧ Below w.heap.size w w' := by
  have HP := Go.Lib.hid fun w => pairs_bad s ax d pr w hf hv
  have P : Hid (((w.alloc (.cells (vrow 266 s.at) 34)).alloc (.cells (vrow 3 (foAt ax d pr)) 38)).heap[w.heap.size]? = some (.cells (vrow 266 s.at) 34)) := (heap_past _ _ _ _ (by simp <;> omega) (heap_at _ _ _ (by simp)))
  have F : Hid (((w.alloc (.cells (vrow 266 s.at) 34)).alloc (.cells (vrow 3 (foAt ax d pr)) 38)).heap[w.heap.size + 1]? = some (.cells (vrow 3 (foAt ax d pr)) 38)) := (heap_at _ _ _ (by simp))
  have hB : Hid (Below w.heap.size w ((w.alloc (.cells (vrow 266 s.at) 34)).alloc (.cells (vrow 3 (foAt ax d pr)) 38))) := Go.Lib.hid (((Below.refl w.heap.size w).alloc (by simp <;> omega) _).alloc (by simp <;> omega) _)
  go_enter Tryd.func60, Tryd.ntmps60
  go_wp2
  refine wp_scope_straight ?_
  refine wp_seq ?_
  go_wp2_with (first
    | go_skip
    | ((with_reducible refine wlAt 12 rfl ?_); refine wpList_loadall rfl 34 (.tmp 3) rfl w.heap.size rfl 266 s.at 34 _ Tryd.underlying34 rfl size_sheet P.out ?_)
    | ((with_reducible refine wlAt 13 rfl ?_); refine wpList_loadall rfl 38 (.tmp 4) rfl (w.heap.size + 1) rfl 3 (foAt ax d pr) 38 _ Tryd.underlying38 rfl size_fold F.out ?_)
    | (go_at_call 67; (refine (HP.out _).mono ?_); rintro o w2 ⟨rfl, hb⟩; replace hB := Go.Lib.hid (below_next hB.out hb); clear hb))
  exact ⟨rfl, rfl, hB.out⟩
set_option maxHeartbeats 2000000 in
theorem puc_ok (s : Sh) (ax : Int) (d : Bool) (pr off : Int) (n : Int) (b1 b2 b3 : Nat) (w : World) (h1 : w.heap[b1]? = some (.cells (vrow 266 s.at) 34)) (h2 : w.heap[b2]? = some (.cells (vrow 3 (foAt ax d pr)) 38)) (h3 : w.heap[b3]? = some (.cells (vrow 1 fun _ => .int .i64 off) 2))
    (HR : ∀ w, Calls Tryd.prog 60 #[.agg s.row, .agg (vrow 3 (foAt ax d pr)), .int .i64 off] w fun e w' => e = .returned (.int .i64 n) ∧ Below w.heap.size w w') : Calls Tryd.prog 59 #[.pointer (some ⟨b1, 0, none⟩), .pointer (some ⟨b2, 0, none⟩), .pointer (some ⟨b3, 0, none⟩)] w fun e w' => e = .returned (.int .i64 n) ∧ Below w.heap.size w w' := by
  have HM := Go.Lib.hid HR
  have P := Go.Lib.hid h1; have F := Go.Lib.hid h2; have I := Go.Lib.hid h3; have hB := Go.Lib.hid (Below.refl w.heap.size w)
  clear HR h1 h2 h3
  go_enter Tryd.func59, Tryd.ntmps59
  go_wp2_with (first
    | go_skip
    | ((with_reducible refine wlAt 4 rfl ?_); refine wpList_loadall rfl 34 (.tmp 0) rfl b1 rfl 266 s.at 34 _ Tryd.underlying34 rfl size_sheet P.out ?_)
    | ((with_reducible refine wlAt 5 rfl ?_); refine wpList_loadall rfl 38 (.tmp 1) rfl b2 rfl 3 (foAt ax d pr) 38 _ Tryd.underlying38 rfl size_fold F.out ?_)
    | ((with_reducible refine wlAt 6 rfl ?_); refine wpList_ld1 2 _ rfl (by first | exact want_n rfl | exact want_g _ _ _ rfl rfl rfl) b3 0 rfl 1 (fun _ => .int .i64 off) _ rw_i64u I.out (by omega) ?_)
    | (go_at_call 60; (refine (HM.out _).mono ?_); rintro o w1 ⟨rfl, hb⟩; replace hB := Go.Lib.hid (below_next hB.out hb); clear hb))
  go_ret
  exact ⟨rfl, hB.out⟩
set_option maxHeartbeats 2000000 in
theorem puc_bad (s : Sh) (ax : Int) (d : Bool) (pr off : Int) (b1 b2 b3 : Nat) (w : World) (h1 : w.heap[b1]? = some (.cells (vrow 266 s.at) 34)) (h2 : w.heap[b2]? = some (.cells (vrow 3 (foAt ax d pr)) 38)) (h3 : w.heap[b3]? = some (.cells (vrow 1 fun _ => .int .i64 off) 2))
    (HR : ∀ w, Calls Tryd.prog 60 #[.agg s.row, .agg (vrow 3 (foAt ax d pr)), .int .i64 off] w fun e w' => e = .panicked [{ v := .iface 179 (.agg #[.int .i8 ax, .bool d, .int .i8 pr]), recovered := false }] ∧ Below w.heap.size w w') : Calls Tryd.prog 59 #[.pointer (some ⟨b1, 0, none⟩), .pointer (some ⟨b2, 0, none⟩), .pointer (some ⟨b3, 0, none⟩)] w fun e w' => e = .panicked [{ v := .iface 179 (.agg #[.int .i8 ax, .bool d, .int .i8 pr]), recovered := false }] ∧ Below w.heap.size w w' := by
  have HM := Go.Lib.hid HR
  have P := Go.Lib.hid h1; have F := Go.Lib.hid h2; have I := Go.Lib.hid h3; have hB := Go.Lib.hid (Below.refl w.heap.size w)
  clear HR h1 h2 h3
  go_enter Tryd.func59, Tryd.ntmps59
  go_wp2_with (first
    | go_skip
    | ((with_reducible refine wlAt 4 rfl ?_); refine wpList_loadall rfl 34 (.tmp 0) rfl b1 rfl 266 s.at 34 _ Tryd.underlying34 rfl size_sheet P.out ?_)
    | ((with_reducible refine wlAt 5 rfl ?_); refine wpList_loadall rfl 38 (.tmp 1) rfl b2 rfl 3 (foAt ax d pr) 38 _ Tryd.underlying38 rfl size_fold F.out ?_)
    | ((with_reducible refine wlAt 6 rfl ?_); refine wpList_ld1 2 _ rfl (by first | exact want_n rfl | exact want_g _ _ _ rfl rfl rfl) b3 0 rfl 1 (fun _ => .int .i64 off) _ rw_i64u I.out (by omega) ?_)
    | (go_at_call 60; (refine (HM.out _).mono ?_); rintro o w1 ⟨rfl, hb⟩; replace hB := Go.Lib.hid (below_next hB.out hb); clear hb))
  exact ⟨rfl, rfl, hB.out⟩
set_option maxHeartbeats 2000000 in
theorem ckO_bad (s : Sh) (off : Int) (e : ErrE) (w : World) (hE : Errs e w) (hf : s.fit) (ho : okI s = false) : Calls Tryd.prog 58 #[.agg s.row, .int .i64 off] w fun o w' => o = .returned (errP e 1) ∧ Below w.heap.size w w' := by
  have HC := Go.Lib.hid fun w hE => checkSheet_bad s ho e w hE
  have hB : Hid (Below w.heap.size w (w.alloc (.cells (vrow 266 s.at) 34))) := ((Below.refl w.heap.size w).alloc (by simp <;> omega) _)
  have P : Hid ((w.alloc (.cells (vrow 266 s.at) 34)).heap[(w.heap.size)]? = some (.cells (vrow 266 s.at) 34)) := heap_at _ _ _ (by simp)
  have E : Hid (Errs e (w.alloc (.cells (vrow 266 s.at) 34))) := hE.alloc _
  go_enter Tryd.func58, Tryd.ntmps58
  go_wp2_with (first
    | go_skip
    | (with_reducible refine wlAt 6 rfl ?_; refine wpList_loadall rfl 34 (.tmp 2) rfl _ rfl 266 s.at 34 _ Tryd.underlying34 rfl size_sheet P.out ?_)
    | (go_at_call 62; (refine (HC.out _ E.out).mono ?_; rintro o w1 ⟨rfl, hb⟩; replace P := Go.Lib.hid (row_next hb P.out); replace hB := Go.Lib.hid (below_next hB.out hb); replace E := Go.Lib.hid (E.out.next hb); clear hb))
    | ((with_reducible refine wlOp (.load 88 (.global 1)) rfl ?_); refine wpList_ld1 88 _ rfl (by first | exact want_n rfl | exact want_g _ _ _ rfl rfl rfl) 1 0 rfl 1 (fun _ => errP e 2) _ rw_err E.out.v2 (by omega) ?_))
  go_ret
  exact ⟨rfl, hB.out⟩
set_option maxHeartbeats 2000000 in
theorem ckO_neg (s : Sh) (off : Int) (e : ErrE) (w : World) (hE : Errs e w) (hf : s.fit) (ho : okI s = true) (hn : off < 0) : Calls Tryd.prog 58 #[.agg s.row, .int .i64 off] w fun o w' => o = .returned (errP e 2) ∧ Below w.heap.size w w' := by
  have HC := Go.Lib.hid fun w hE => checkSheet_ok s ho e w hE
  have h1 : decide (off < 0) = true := by simpa using hn
  have hB : Hid (Below w.heap.size w (w.alloc (.cells (vrow 266 s.at) 34))) := ((Below.refl w.heap.size w).alloc (by simp <;> omega) _)
  have P : Hid ((w.alloc (.cells (vrow 266 s.at) 34)).heap[(w.heap.size)]? = some (.cells (vrow 266 s.at) 34)) := heap_at _ _ _ (by simp)
  have E : Hid (Errs e (w.alloc (.cells (vrow 266 s.at) 34))) := hE.alloc _
  go_enter Tryd.func58, Tryd.ntmps58
  go_wp2_with (first
    | go_skip
    | (with_reducible refine wlAt 6 rfl ?_; refine wpList_loadall rfl 34 (.tmp 2) rfl _ rfl 266 s.at 34 _ Tryd.underlying34 rfl size_sheet P.out ?_)
    | (go_at_call 62; (refine (HC.out _ E.out).mono ?_; rintro o w1 ⟨rfl, hb⟩; replace P := Go.Lib.hid (row_next hb P.out); replace hB := Go.Lib.hid (below_next hB.out hb); replace E := Go.Lib.hid (E.out.next hb); clear hb))
    | ((with_reducible refine wlOp (.load 88 (.global 1)) rfl ?_); refine wpList_ld1 88 _ rfl (by first | exact want_n rfl | exact want_g _ _ _ rfl rfl rfl) 1 0 rfl 1 (fun _ => errP e 2) _ rw_err E.out.v2 (by omega) ?_))
  go_ret
  exact ⟨rfl, hB.out⟩
set_option maxHeartbeats 2000000 in
theorem ckO_ok (s : Sh) (off : Int) (e : ErrE) (w : World) (hE : Errs e w) (hf : s.fit) (ho : okI s = true) (hn : 0 ≤ off) : Calls Tryd.prog 58 #[.agg s.row, .int .i64 off] w fun o w' => o = .returned (.nilIface) ∧ Below w.heap.size w w' := by
  have HC := Go.Lib.hid fun w hE => checkSheet_ok s ho e w hE
  have h1 : decide (off < 0) = false := by simp; omega
  have hB : Hid (Below w.heap.size w (w.alloc (.cells (vrow 266 s.at) 34))) := ((Below.refl w.heap.size w).alloc (by simp <;> omega) _)
  have P : Hid ((w.alloc (.cells (vrow 266 s.at) 34)).heap[(w.heap.size)]? = some (.cells (vrow 266 s.at) 34)) := heap_at _ _ _ (by simp)
  have E : Hid (Errs e (w.alloc (.cells (vrow 266 s.at) 34))) := hE.alloc _
  go_enter Tryd.func58, Tryd.ntmps58
  go_wp2_with (first
    | go_skip
    | (with_reducible refine wlAt 6 rfl ?_; refine wpList_loadall rfl 34 (.tmp 2) rfl _ rfl 266 s.at 34 _ Tryd.underlying34 rfl size_sheet P.out ?_)
    | (go_at_call 62; (refine (HC.out _ E.out).mono ?_; rintro o w1 ⟨rfl, hb⟩; replace P := Go.Lib.hid (row_next hb P.out); replace hB := Go.Lib.hid (below_next hB.out hb); replace E := Go.Lib.hid (E.out.next hb); clear hb))
    | ((with_reducible refine wlOp (.load 88 (.global 1)) rfl ?_); refine wpList_ld1 88 _ rfl (by first | exact want_n rfl | exact want_g _ _ _ rfl rfl rfl) 1 0 rfl 1 (fun _ => errP e 2) _ rw_err E.out.v2 (by omega) ?_))
  go_ret
  exact ⟨rfl, hB.out⟩
set_option maxHeartbeats 4000000 in
theorem implPU_le (s : Sh) (ax : Int) (d : Bool) (pr off : Int) (r k : Int) (ev : Value) (e : ErrE) (w : World) (hE : Errs e w) (hr : r ≤ 30)
    (HC0 : ∀ W, Errs e W → Calls Tryd.prog 58 #[.agg s.row, .int .i64 off] W fun o w' => o = .returned ev ∧ Below W.heap.size W w')
    (HU0 : ∀ W, Errs e W → W.heap[w.heap.size]? = some (.cells (vrow 266 s.at) 34) → W.heap[w.heap.size + 1]? = some (.cells (vrow 3 (foAt ax d pr)) 38) → W.heap[w.heap.size + 2]? = some (.cells (vrow 1 fun _ => .int .i64 off) 2) → Calls Tryd.prog 57 #[ev, .func (.func 59) #[] #[.pointer (some ⟨w.heap.size, 0, none⟩), .pointer (some ⟨w.heap.size + 1, 0, none⟩), .pointer (some ⟨w.heap.size + 2, 0, none⟩)]] W fun o w' => o = .returned (.tuple #[.int .i64 r, .int .i64 k]) ∧ Below W.heap.size W w') :
    Calls Tryd.prog 23 #[.agg s.row, .agg (vrow 3 (foAt ax d pr)), .int .i64 off] w fun o w' => o = .returned (.tuple #[.int .i64 r, .int .i64 k]) ∧ Below w.heap.size w w' := by
  have HC := Go.Lib.hid HC0
  have HU := Go.Lib.hid HU0
  clear HC0 HU0
  have hmf : ∀ (fn : Fn) (first cap : Array Value) (w : World), (Instr.makeFunc fn first cap).run Tryd.prog w = .ok (.func fn first cap) w := fun _ _ _ _ => rfl
  have h1 : decide (30 < r) = false := by simp; omega
  have P : Hid ((((w.alloc (.cells (vrow 266 s.at) 34)).alloc (.cells (vrow 3 (foAt ax d pr)) 38)).alloc (.cells (vrow 1 fun _ => .int .i64 off) 2)).heap[w.heap.size]? = some (.cells (vrow 266 s.at) 34)) := (heap_past _ _ _ _ (by simp <;> omega) (heap_past _ _ _ _ (by simp <;> omega) (heap_at _ _ _ (by simp))))
  have F : Hid ((((w.alloc (.cells (vrow 266 s.at) 34)).alloc (.cells (vrow 3 (foAt ax d pr)) 38)).alloc (.cells (vrow 1 fun _ => .int .i64 off) 2)).heap[w.heap.size + 1]? = some (.cells (vrow 3 (foAt ax d pr)) 38)) := (heap_past _ _ _ _ (by simp <;> omega) (heap_at _ _ _ (by simp)))
  have I : Hid ((((w.alloc (.cells (vrow 266 s.at) 34)).alloc (.cells (vrow 3 (foAt ax d pr)) 38)).alloc (.cells (vrow 1 fun _ => .int .i64 off) 2)).heap[w.heap.size + 2]? = some (.cells (vrow 1 fun _ => .int .i64 off) 2)) := (heap_at _ _ _ (by simp))
  have hB : Hid (Below w.heap.size w (((w.alloc (.cells (vrow 266 s.at) 34)).alloc (.cells (vrow 3 (foAt ax d pr)) 38)).alloc (.cells (vrow 1 fun _ => .int .i64 off) 2))) := Go.Lib.hid ((((Below.refl w.heap.size w).alloc (by simp <;> omega) _).alloc (by simp <;> omega) _).alloc (by simp <;> omega) _)
  go_enter Tryd.func23, Tryd.ntmps23
  go_wp2_with (first
    | go_skip
    | ((with_reducible refine wlAt 11 rfl ?_); refine wpList_loadall rfl 34 (.tmp 3) rfl w.heap.size rfl 266 s.at 34 _ Tryd.underlying34 rfl size_sheet P.out ?_)
    | ((with_reducible refine wlAt 12 rfl ?_); refine wpList_ld1 2 _ rfl (by first | exact want_n rfl | exact want_g _ _ _ rfl rfl rfl) (w.heap.size + 2) 0 rfl 1 (fun _ => .int .i64 off) _ rw_i64u I.out (by omega) ?_)
    | (go_at_call 58; (refine (HC.out _ (hE.next hB.out)).mono ?_); rintro o w1 ⟨rfl, hb⟩; replace P := Go.Lib.hid (row_next hb P.out); replace F := Go.Lib.hid (row_next hb F.out); replace I := Go.Lib.hid (row_next hb I.out); replace hB := Go.Lib.hid (below_next hB.out hb); clear hb)
    | (go_at_call 57; (refine (HU.out _ (hE.next hB.out) P.out F.out I.out).mono ?_); rintro o w2 ⟨rfl, hb⟩; replace P := Go.Lib.hid (row_next hb P.out); replace F := Go.Lib.hid (row_next hb F.out); replace I := Go.Lib.hid (row_next hb I.out); replace hB := Go.Lib.hid (below_next hB.out hb); clear hb))
  go_ret2
  exact ⟨rfl, hB.out⟩
set_option maxHeartbeats 4000000 in
theorem implPU_gt (s : Sh) (ax : Int) (d : Bool) (pr off : Int) (r k : Int) (ev : Value) (e : ErrE) (w : World) (hE : Errs e w) (hr : 30 < r)
    (HC0 : ∀ W, Errs e W → Calls Tryd.prog 58 #[.agg s.row, .int .i64 off] W fun o w' => o = .returned ev ∧ Below W.heap.size W w')
    (HU0 : ∀ W, Errs e W → W.heap[w.heap.size]? = some (.cells (vrow 266 s.at) 34) → W.heap[w.heap.size + 1]? = some (.cells (vrow 3 (foAt ax d pr)) 38) → W.heap[w.heap.size + 2]? = some (.cells (vrow 1 fun _ => .int .i64 off) 2) → Calls Tryd.prog 57 #[ev, .func (.func 59) #[] #[.pointer (some ⟨w.heap.size, 0, none⟩), .pointer (some ⟨w.heap.size + 1, 0, none⟩), .pointer (some ⟨w.heap.size + 2, 0, none⟩)]] W fun o w' => o = .returned (.tuple #[.int .i64 r, .int .i64 k]) ∧ Below W.heap.size W w') :
    Calls Tryd.prog 23 #[.agg s.row, .agg (vrow 3 (foAt ax d pr)), .int .i64 off] w fun o w' => o = .returned (.tuple #[.int .i64 0, .int .i64 6]) ∧ Below w.heap.size w w' := by
  have HC := Go.Lib.hid HC0
  have HU := Go.Lib.hid HU0
  clear HC0 HU0
  have hmf : ∀ (fn : Fn) (first cap : Array Value) (w : World), (Instr.makeFunc fn first cap).run Tryd.prog w = .ok (.func fn first cap) w := fun _ _ _ _ => rfl
  have h1 : decide (30 < r) = true := by simpa using hr
  have P : Hid ((((w.alloc (.cells (vrow 266 s.at) 34)).alloc (.cells (vrow 3 (foAt ax d pr)) 38)).alloc (.cells (vrow 1 fun _ => .int .i64 off) 2)).heap[w.heap.size]? = some (.cells (vrow 266 s.at) 34)) := (heap_past _ _ _ _ (by simp <;> omega) (heap_past _ _ _ _ (by simp <;> omega) (heap_at _ _ _ (by simp))))
  have F : Hid ((((w.alloc (.cells (vrow 266 s.at) 34)).alloc (.cells (vrow 3 (foAt ax d pr)) 38)).alloc (.cells (vrow 1 fun _ => .int .i64 off) 2)).heap[w.heap.size + 1]? = some (.cells (vrow 3 (foAt ax d pr)) 38)) := (heap_past _ _ _ _ (by simp <;> omega) (heap_at _ _ _ (by simp)))
  have I : Hid ((((w.alloc (.cells (vrow 266 s.at) 34)).alloc (.cells (vrow 3 (foAt ax d pr)) 38)).alloc (.cells (vrow 1 fun _ => .int .i64 off) 2)).heap[w.heap.size + 2]? = some (.cells (vrow 1 fun _ => .int .i64 off) 2)) := (heap_at _ _ _ (by simp))
  have hB : Hid (Below w.heap.size w (((w.alloc (.cells (vrow 266 s.at) 34)).alloc (.cells (vrow 3 (foAt ax d pr)) 38)).alloc (.cells (vrow 1 fun _ => .int .i64 off) 2))) := Go.Lib.hid ((((Below.refl w.heap.size w).alloc (by simp <;> omega) _).alloc (by simp <;> omega) _).alloc (by simp <;> omega) _)
  go_enter Tryd.func23, Tryd.ntmps23
  go_wp2_with (first
    | go_skip
    | ((with_reducible refine wlAt 11 rfl ?_); refine wpList_loadall rfl 34 (.tmp 3) rfl w.heap.size rfl 266 s.at 34 _ Tryd.underlying34 rfl size_sheet P.out ?_)
    | ((with_reducible refine wlAt 12 rfl ?_); refine wpList_ld1 2 _ rfl (by first | exact want_n rfl | exact want_g _ _ _ rfl rfl rfl) (w.heap.size + 2) 0 rfl 1 (fun _ => .int .i64 off) _ rw_i64u I.out (by omega) ?_)
    | (go_at_call 58; (refine (HC.out _ (hE.next hB.out)).mono ?_); rintro o w1 ⟨rfl, hb⟩; replace P := Go.Lib.hid (row_next hb P.out); replace F := Go.Lib.hid (row_next hb F.out); replace I := Go.Lib.hid (row_next hb I.out); replace hB := Go.Lib.hid (below_next hB.out hb); clear hb)
    | (go_at_call 57; (refine (HU.out _ (hE.next hB.out) P.out F.out I.out).mono ?_); rintro o w2 ⟨rfl, hb⟩; replace P := Go.Lib.hid (row_next hb P.out); replace F := Go.Lib.hid (row_next hb F.out); replace I := Go.Lib.hid (row_next hb I.out); replace hB := Go.Lib.hid (below_next hB.out hb); clear hb))
  go_ret2
  exact ⟨rfl, hB.out⟩
set_option maxHeartbeats 4000000 in
theorem specPU_err (s : Sh) (ax : Int) (d : Bool) (pr off : Int) (w : World) (hf : s.fit) (hax : -128 ≤ ax ∧ ax ≤ 127) (hap : -128 ≤ pr ∧ pr ≤ 127) (b : Bool) (hbb : decide (0 ≤ off) = b) (c : Int) (hc : askC (okI s) (foldOk s ax d pr) b = c) (h0 : (c != 0) = true) : Calls Tryd.prog 22 #[.agg s.row, .agg (vrow 3 (foAt ax d pr)), .int .i64 off] w fun e w' => e = .returned (.tuple #[.int .i64 0, .int .i64 c]) ∧ Below w.heap.size w w' := by
  have HA := Go.Lib.hid fun W h => asked_any s w.heap.size ax d pr b W h hf hax hap
  have e1 : askC (okB s) (foldOk s ax d pr) b = c := by rw [← ok_eq s hf]; exact hc
  rw [e1, fo_vrow] at HA
  clear hc e1
  have P : Hid (((w.alloc (.cells (vrow 266 s.at) 34)).alloc (.cells (vrow 3 (foAt ax d pr)) 38)).heap[w.heap.size]? = some (.cells (vrow 266 s.at) 34)) := (heap_past _ _ _ _ (by simp <;> omega) (heap_at _ _ _ (by simp)))
  have F : Hid (((w.alloc (.cells (vrow 266 s.at) 34)).alloc (.cells (vrow 3 (foAt ax d pr)) 38)).heap[w.heap.size + 1]? = some (.cells (vrow 3 (foAt ax d pr)) 38)) := (heap_at _ _ _ (by simp))
  have hB : Hid (Below w.heap.size w ((w.alloc (.cells (vrow 266 s.at) 34)).alloc (.cells (vrow 3 (foAt ax d pr)) 38))) := Go.Lib.hid (((Below.refl w.heap.size w).alloc (by simp <;> omega) _).alloc (by simp <;> omega) _)
  go_enter Tryd.func22, Tryd.ntmps22
  go_wp2_with (first
    | go_skip
    | ((with_reducible refine wlAt 12 rfl ?_); refine wpList_loadall rfl 38 (.tmp 4) rfl (w.heap.size + 1) rfl 3 (foAt ax d pr) 38 _ Tryd.underlying38 rfl size_fold F.out ?_)
    | (go_at_call 42; (refine (HA.out _ P.out).mono ?_); rintro o w1 ⟨rfl, hb⟩; replace P := Go.Lib.hid (row_next hb P.out); replace F := Go.Lib.hid (row_next hb F.out); replace hB := Go.Lib.hid (below_next hB.out hb); clear hb))
  go_ret2
  exact ⟨rfl, hB.out⟩
set_option maxRecDepth 100000 in
set_option maxHeartbeats 8000000 in
theorem specPU_ok (s : Sh) (ax : Int) (d : Bool) (pr off : Int) (w : World) (hf : s.fit) (hax : -128 ≤ ax ∧ ax ≤ 127) (hap : -128 ≤ pr ∧ pr ≤ 127) (a c n : Nat) (hb0 : bdP s) (ea : s.wide = a) (ec : s.high = c) (ha : 1 ≤ a ∧ a ≤ 8) (hcc : 1 ≤ c ∧ c ≤ 8) (hbb : decide (0 ≤ off) = true) (hc : askC (okI s) (foldOk s ax d pr) true = 0) (hax2 : 1 ≤ ax ∧ ax ≤ 8) (hp : 0 ≤ pr ∧ pr ≤ 16)
    (hn : n ≤ 31) (h1 : ∀ i, i < n → off < ofT pr ax d s (prsL s a c ax d) i) (h2 : n < 31 → ofT pr ax d s (prsL s a c ax d) n ≤ off) : Calls Tryd.prog 22 #[.agg s.row, .agg (vrow 3 (foAt ax d pr)), .int .i64 off] w fun e w' => e = .returned (.tuple #[.int .i64 (if n < 31 then (n : Int) else 0), .int .i64 (if n < 31 then 0 else 6)]) ∧ Below w.heap.size w w' := by
  have hkp := fun j => prT_kept pr ax d s (prsL s a c ax d) j
  have hbT := fun j => prT_bd (ax := ax) (d := d) (L := prsL s a c ax d) hb0 hp j
  have HLO := fun j W h => loffB_any (prT pr ax d s (prsL s a c ax d) j) w.heap.size a c ax d pr W h (fit_bd (hkp j) hf (hbT j)) (hbT j).1 hax2 (by rw [(hkp j).1]; exact ea) (by rw [(hkp j).2.1]; exact ec) ha hcc
  have HLP := fun j W h => lpressed_any (prT pr ax d s (prsL s a c ax d) j) w.heap.size a c ax d pr W h (fit_bd (hkp j) hf (hbT j)) (hbT j) hp hax2 (by rw [(hkp j).1]; exact ea) (by rw [(hkp j).2.1]; exact ec) ha hcc
  simp only [fun j => prsL_kept (hkp j) a c ax d] at HLO HLP
  generalize prsL s a c ax d = L at *
  clear hkp hbT
  have HA := Go.Lib.hid fun W h => asked_any s w.heap.size ax d pr true W h hf hax hap
  have e1 : askC (okB s) (foldOk s ax d pr) true = 0 := by rw [← ok_eq s hf]; exact hc
  rw [e1, fo_vrow] at HA
  clear hc e1
  have P : Hid (((w.alloc (.cells (vrow 266 s.at) 34)).alloc (.cells (vrow 3 (foAt ax d pr)) 38)).heap[w.heap.size]? = some (.cells (vrow 266 s.at) 34)) := (heap_past _ _ _ _ (by simp <;> omega) (heap_at _ _ _ (by simp)))
  have F : Hid (((w.alloc (.cells (vrow 266 s.at) 34)).alloc (.cells (vrow 3 (foAt ax d pr)) 38)).heap[w.heap.size + 1]? = some (.cells (vrow 3 (foAt ax d pr)) 38)) := (heap_at _ _ _ (by simp))
  have hB : Hid (Below w.heap.size w ((w.alloc (.cells (vrow 266 s.at) 34)).alloc (.cells (vrow 3 (foAt ax d pr)) 38))) := Go.Lib.hid (((Below.refl w.heap.size w).alloc (by simp <;> omega) _).alloc (by simp <;> omega) _)
  go_enter Tryd.func22, Tryd.ntmps22
  go_wp2_with (first
    | go_skip
    | ((with_reducible refine wlAt 12 rfl ?_); refine wpList_loadall rfl 38 (.tmp 4) rfl (w.heap.size + 1) rfl 3 (foAt ax d pr) 38 _ Tryd.underlying38 rfl size_fold F.out ?_)
    | (go_at_call 42; (refine (HA.out _ P.out).mono ?_); rintro o w1 ⟨rfl, hb⟩; replace P := Go.Lib.hid (row_next hb P.out); replace F := Go.Lib.hid (row_next hb F.out); replace hB := Go.Lib.hid (below_next hB.out hb); clear hb))
  have P0 := P.out; have F0 := F.out; have B0 := hB.out
  clear P F hB
  go_loopw [9] (fun iv wr => ∃ t : Nat, t ≤ n ∧ iv = .int .i64 t ∧ wr.heap[w.heap.size]? = some (.cells (vrow 266 (prT pr ax d s L t).at) 34) ∧ wr.heap[w.heap.size + 1]? = some (.cells (vrow 3 (foAt ax d pr)) 38) ∧ Below w.heap.size w wr) (fun iv _ => 31 - (intOf iv).toNat)
  case atStart => exact ⟨0, by omega, rfl, P0, F0, B0⟩
  case round =>
    clear P0 F0 B0
    obtain ⟨t, ht, rfl, P, F, hB⟩ := hrel
    by_cases ht31 : t < 31
    · have htI : (t : Int) < 31 := by omega
      have ht0 : (0 : Int) ≤ (t : Int) := by omega
      have htd : decide ((t : Int) ≤ 30) = true := by simp; omega
      have HO := Go.Lib.hid (HLO t); have HP := Go.Lib.hid (HLP t)
      have hof : ofT pr ax d s L t = oS (gq (prT pr ax d s L t) ax d L) L.length := rfl
      have HNX := Go.Lib.hid (show prT pr ax d s L (t + 1) = (prL pr ax d (prT pr ax d s L t) L).1 from rfl)
      rw [← hof] at HO
      have ht1 := fun h => h1 t h
      have ht2 : t = n → ofT pr ax d s L t ≤ off := fun h => by have h9 := h2 (by omega); rw [← h] at h9; exact h9
      clear hof HLO HLP
      generalize ofT pr ax d s L t = f0 at *
      generalize prT pr ax d s L t = T at *
      generalize oM (gq T ax d L) L.length = m0 at *
      replace P := Go.Lib.hid P; replace F := Go.Lib.hid F; replace hB := Go.Lib.hid hB
      by_cases hle : f0 ≤ off
      · have hld : decide (f0 ≤ off) = true := by simpa using hle
        have htn : t = n := by
          rcases Nat.lt_or_ge t n with h | h
          · have := ht1 h
            omega
          · omega
        subst htn
        go_wp2_with (first
          | go_skip
          | ((with_reducible refine wlAt 24 rfl ?_); refine wpList_loadall rfl 38 (.tmp 4) rfl (w.heap.size + 1) rfl 3 (foAt ax d pr) 38 _ Tryd.underlying38 rfl size_fold F.out ?_)
          | (go_at_call 56; (refine (HO.out _ P.out).mono ?_); rintro o w1 ⟨rfl, hb⟩; replace P := Go.Lib.hid (row_next hb P.out); replace F := Go.Lib.hid (row_next hb F.out); replace hB := Go.Lib.hid (below_next hB.out hb); clear hb))
        go_ret2
        exact ⟨by first | rfl | (simp [ht31]; done), hB.out⟩
      · have hld : decide (f0 ≤ off) = false := by simpa using hle
        have htn : t < n := by
          rcases Nat.lt_or_ge t n with h | h
          · exact h
          · exfalso
            exact hle (ht2 (by omega))
        go_wp2_with (first
          | go_skip
          | ((with_reducible refine wlAt 24 rfl ?_); refine wpList_loadall rfl 38 (.tmp 4) rfl (w.heap.size + 1) rfl 3 (foAt ax d pr) 38 _ Tryd.underlying38 rfl size_fold F.out ?_)
          | ((with_reducible refine wlAt 32 rfl ?_); refine wpList_loadall rfl 38 (.tmp 4) rfl (w.heap.size + 1) rfl 3 (foAt ax d pr) 38 _ Tryd.underlying38 rfl size_fold F.out ?_)
          | (go_at_call 56; (refine (HO.out _ P.out).mono ?_); rintro o w1 ⟨rfl, hb⟩; replace P := Go.Lib.hid (row_next hb P.out); replace F := Go.Lib.hid (row_next hb F.out); replace hB := Go.Lib.hid (below_next hB.out hb); clear hb)
          | (go_at_call 43; (refine (HP.out _ P.out).mono ?_); rintro o w2 ⟨rfl, hg, hP⟩; replace P := Go.Lib.hid hP; replace F := Go.Lib.hid ((hg.block _ (row_lt F.out) (by simp)).trans F.out); replace hB := Go.Lib.hid (below_grownP hB.out hg (Nat.le_refl _)); clear hg hP))
        go_roundw
        case rel => exact ⟨t + 1, by omega, by go_num, by rw [HNX.out]; exact P.out, F.out, hB.out⟩
        case measure => simp [intOf]; omega
    · obtain rfl : t = 31 := by omega
      obtain rfl : n = 31 := by omega
      have htd : decide (((31 : Nat) : Int) ≤ 30) = false := by simp
      go_wp2
      go_ret2
      exact ⟨by first | rfl | (simp; done), hB⟩
end Go.Proofs.YtmcpaangofdmpaaDoor
