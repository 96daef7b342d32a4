import Derived.Deep.RegionHeld3
import Derived.Test.YtgbhchmpeioaiaaDoorG1
import Derived.Test.YtgbhchmpeioaiaaDoorCodeOf
namespace Go.Proofs.YtgbhchmpeioaiaaDoor
open Go.RowKit
set_option maxRecDepth 100000
set_option linter.unusedVariables false
set_option linter.unusedSimpArgs false
set_option maxHeartbeats 2000000 in
theorem ckRounds_bad (s : Sh) (k : Int) (e : ErrE) (w : World) (hE : Errs e w) (ho : okI s = false) (hf : s.fit := by assumption) : Calls Tryd.prog 76 #[.agg s.row, .int .i64 k] w fun o w' => o = .returned (errP e 1) ∧ Below w.heap.size w w' := by
  have HC := Go.Lib.hid fun w hE => checkSheet_bad s ho e w hE
  have hB : Hid (Below w.heap.size w (w.alloc (.cells (vrow 266 s.at) 35))) := ((Below.refl w.heap.size w).alloc (by simp <;> omega) _)
  have P : Hid ((w.alloc (.cells (vrow 266 s.at) 35)).heap[(w.heap.size)]? = some (.cells (vrow 266 s.at) 35)) := heap_at _ _ _ (by simp)
  have E : Hid (Errs e (w.alloc (.cells (vrow 266 s.at) 35))) := hE.alloc _
  go_enter Tryd.func76, Tryd.ntmps76
  go_wp2_with (first
    | go_skip
    | (with_reducible refine wlAt 6 rfl ?_; refine wpList_loadall rfl 35 (.tmp 2) rfl _ rfl 266 s.at 35 _ Tryd.underlying35 rfl size_sheet P.out ?_)
    | (go_at_call 52; (refine (HC.out _ E.out).mono ?_; rintro o w1 ⟨rfl, hb⟩; replace P := Go.Lib.hid (row_next hb P.out); replace hB := Go.Lib.hid (below_next hB.out hb); replace E := Go.Lib.hid (E.out.next hb); clear hb))
    | (with_reducible refine wlAt 17 rfl ?_; refine wpList_ld1 76 _ rfl (by first | exact want_n rfl | exact want_g _ _ _ rfl rfl rfl) 1 0 rfl 1 (fun _ => errP e 2) _ rw_err E.out.v2 (by omega) ?_))
  go_ret
  exact ⟨rfl, hB.out⟩
set_option maxHeartbeats 2000000 in
theorem ckRounds_ok (s : Sh) (k : Int) (e : ErrE) (w : World) (hE : Errs e w) (ho : okI s = true) (hk : 0 ≤ k ∧ k ≤ 500) : Calls Tryd.prog 76 #[.agg s.row, .int .i64 k] w fun o w' => o = .returned (.nilIface) ∧ Below w.heap.size w w' := by
  have HC := Go.Lib.hid fun w hE => checkSheet_ok s ho e w hE
  have h1 : decide (k < 0) = false := by simp; omega
  have h2 : decide (k > 500) = false := by simp; omega
  have h3 : decide (500 < k) = false := by simp; omega
  have hB : Hid (Below w.heap.size w (w.alloc (.cells (vrow 266 s.at) 35))) := ((Below.refl w.heap.size w).alloc (by simp <;> omega) _)
  have P : Hid ((w.alloc (.cells (vrow 266 s.at) 35)).heap[(w.heap.size)]? = some (.cells (vrow 266 s.at) 35)) := heap_at _ _ _ (by simp)
  have E : Hid (Errs e (w.alloc (.cells (vrow 266 s.at) 35))) := hE.alloc _
  go_enter Tryd.func76, Tryd.ntmps76
  go_wp2_with (first
    | go_skip
    | (with_reducible refine wlAt 6 rfl ?_; refine wpList_loadall rfl 35 (.tmp 2) rfl _ rfl 266 s.at 35 _ Tryd.underlying35 rfl size_sheet P.out ?_)
    | (go_at_call 52; (refine (HC.out _ E.out).mono ?_; rintro o w1 ⟨rfl, hb⟩; replace P := Go.Lib.hid (row_next hb P.out); replace hB := Go.Lib.hid (below_next hB.out hb); replace E := Go.Lib.hid (E.out.next hb); clear hb))
    | (with_reducible refine wlAt 17 rfl ?_; refine wpList_ld1 76 _ rfl (by first | exact want_n rfl | exact want_g _ _ _ rfl rfl rfl) 1 0 rfl 1 (fun _ => errP e 2) _ rw_err E.out.v2 (by omega) ?_))
  go_ret
  exact ⟨rfl, hB.out⟩
set_option maxHeartbeats 2000000 in
theorem ckRounds_neg (s : Sh) (k : Int) (e : ErrE) (w : World) (hE : Errs e w) (ho : okI s = true) (hk : k < 0) : Calls Tryd.prog 76 #[.agg s.row, .int .i64 k] w fun o w' => o = .returned (errP e 2) ∧ Below w.heap.size w w' := by
  have HC := Go.Lib.hid fun w hE => checkSheet_ok s ho e w hE
  have h1 : decide (k < 0) = true := by simpa using hk
  have hB : Hid (Below w.heap.size w (w.alloc (.cells (vrow 266 s.at) 35))) := ((Below.refl w.heap.size w).alloc (by simp <;> omega) _)
  have P : Hid ((w.alloc (.cells (vrow 266 s.at) 35)).heap[(w.heap.size)]? = some (.cells (vrow 266 s.at) 35)) := heap_at _ _ _ (by simp)
  have E : Hid (Errs e (w.alloc (.cells (vrow 266 s.at) 35))) := hE.alloc _
  go_enter Tryd.func76, Tryd.ntmps76
  go_wp2_with (first
    | go_skip
    | (with_reducible refine wlAt 6 rfl ?_; refine wpList_loadall rfl 35 (.tmp 2) rfl _ rfl 266 s.at 35 _ Tryd.underlying35 rfl size_sheet P.out ?_)
    | (go_at_call 52; (refine (HC.out _ E.out).mono ?_; rintro o w1 ⟨rfl, hb⟩; replace P := Go.Lib.hid (row_next hb P.out); replace hB := Go.Lib.hid (below_next hB.out hb); replace E := Go.Lib.hid (E.out.next hb); clear hb))
    | (with_reducible refine wlAt 17 rfl ?_; refine wpList_ld1 76 _ rfl (by first | exact want_n rfl | exact want_g _ _ _ rfl rfl rfl) 1 0 rfl 1 (fun _ => errP e 2) _ rw_err E.out.v2 (by omega) ?_))
  go_ret
  exact ⟨rfl, hB.out⟩
set_option maxHeartbeats 2000000 in
theorem ckRounds_big (s : Sh) (k : Int) (e : ErrE) (w : World) (hE : Errs e w) (ho : okI s = true) (hk : 500 < k) : Calls Tryd.prog 76 #[.agg s.row, .int .i64 k] w fun o w' => o = .returned (errP e 2) ∧ Below w.heap.size w w' := by
  have HC := Go.Lib.hid fun w hE => checkSheet_ok s ho e w hE
  have h1 : decide (k < 0) = false := by simp; omega
  have h2 : decide (k > 500) = true := by simpa using hk
  have h3 : decide (500 < k) = true := by simpa using hk
  have hB : Hid (Below w.heap.size w (w.alloc (.cells (vrow 266 s.at) 35))) := ((Below.refl w.heap.size w).alloc (by simp <;> omega) _)
  have P : Hid ((w.alloc (.cells (vrow 266 s.at) 35)).heap[(w.heap.size)]? = some (.cells (vrow 266 s.at) 35)) := heap_at _ _ _ (by simp)
  have E : Hid (Errs e (w.alloc (.cells (vrow 266 s.at) 35))) := hE.alloc _
  go_enter Tryd.func76, Tryd.ntmps76
  go_wp2_with (first
    | go_skip
    | (with_reducible refine wlAt 6 rfl ?_; refine wpList_loadall rfl 35 (.tmp 2) rfl _ rfl 266 s.at 35 _ Tryd.underlying35 rfl size_sheet P.out ?_)
    | (go_at_call 52; (refine (HC.out _ E.out).mono ?_; rintro o w1 ⟨rfl, hb⟩; replace P := Go.Lib.hid (row_next hb P.out); replace hB := Go.Lib.hid (below_next hB.out hb); replace E := Go.Lib.hid (E.out.next hb); clear hb))
    | (with_reducible refine wlAt 17 rfl ?_; refine wpList_ld1 76 _ rfl (by first | exact want_n rfl | exact want_g _ _ _ rfl rfl rfl) 1 0 rfl 1 (fun _ => errP e 2) _ rw_err E.out.v2 (by omega) ?_))
  go_ret
  exact ⟨rfl, hB.out⟩
end Go.Proofs.YtgbhchmpeioaiaaDoor
