import Derived.Deep.RegionHeld3
import Derived.Test.YtfgcpiipndhllaaDoorRinI
import Derived.Test.YtfgcpiipndhllaaDoorG1
import Derived.Test.YtfgcpiipndhllaaDoorCodeOf
namespace Go.Proofs.YtfgcpiipndhllaaDoor
open Go.RowKit
set_option maxRecDepth 100000
set_option linter.unusedVariables false
set_option linter.unusedSimpArgs false
theorem built_zsR : Tryd.prog.built 36 [] = some Sh.zero.row := by kernel_rfl
theorem ret_rowsO {P : Program} {fn : Func} {R : Ending → World → Prop} {a : Act} {w : World} {p u q : Tmp} {ty ty' : TypeId} (hr : fn.results = #[.cell p ty, .cell u ty', .tmp q]) (b : Nat) (n : Nat) (f : Nat → Value) (t : TypeId) (d : TypeDesc) (hu : P.underlying ty = some d) (hd : d.isRow = true) (hi : (P.info? ty).map (·.size) = some n) (b' : Nat) (n' : Nat) (f' : Nat → Value) (t' : TypeId) (d' : TypeDesc) (hu' : P.underlying ty' = some d') (hd' : d'.isRow = true) (hi' : (P.info? ty').map (·.size) = some n') (v : Value)
    (hp : a.tmps.getD p undef = .pointer (some ⟨b, 0, none⟩)) (hp' : a.tmps.getD u undef = .pointer (some ⟨b', 0, none⟩)) (hv : a.tmps.getD q undef = v) (hdf : a.defers = []) (hg : w.heap[b]? = some (.cells (vrow n f) t)) (hg' : w.heap[b']? = some (.cells (vrow n' f') t')) (h : R (.returned (.tuple #[.agg (vrow n f), .agg (vrow n' f'), v])) w) : bodyPost P fn R .ret a w := by
  refine bodyPost_ret ?_ hdf h
  have hl := run_loadVar_row (P := P) w b t ty (vrow n f) (0, 0) d hg hu (by cases d <;> first | rfl | exact hd) (by rw [vrow_size]; exact hi)
  have hl' := run_loadVar_row (P := P) w b' t' ty' (vrow n' f') (0, 0) d' hg' hu' (by cases d' <;> first | rfl | exact hd') (by rw [vrow_size]; exact hi')
  have hp1 : a.tmps[p]?.getD undef = .pointer (some ⟨b, 0, none⟩) := by simpa using hp
  have hp2 : a.tmps[u]?.getD undef = .pointer (some ⟨b', 0, none⟩) := by simpa using hp'
  have hv1 : a.tmps[q]?.getD undef = v := by simpa using hv
  simp [results, hr, hp1, hp2, hv1, asAddr, hl, hl', Result.andThen]
theorem lshare_any (n : Int) (w : World) : Calls Tryd.prog 120 #[.int .i64 n] w fun e w' => e = .returned (.bool (decide (1 ≤ n) && decide (n ≤ 15))) ∧ Below w.heap.size w w' := by
  by_cases h : 1 ≤ n ∧ n ≤ 15
  · rw [decide_eq_true h.1, decide_eq_true h.2]
    have HI := Go.Lib.hid fun w => in_yes n 1 15 h.1 h.2 w
    go_enter Tryd.func120, Tryd.ntmps120
    go_wp2_with (first
      | go_skip
      | (go_at_call 75; (refine (HI.out _).mono ?_); rintro o w1 ⟨rfl, hb⟩))
    go_ret
    exact ⟨rfl, hb⟩
  · rw [show (decide (1 ≤ n) && decide (n ≤ 15)) = false by simp; omega]
    have HI := Go.Lib.hid fun w => in_no n 1 15 (by omega) w
    go_enter Tryd.func120, Tryd.ntmps120
    go_wp2_with (first
      | go_skip
      | (go_at_call 75; (refine (HI.out _).mono ?_); rintro o w1 ⟨rfl, hb⟩))
    go_ret
    exact ⟨rfl, hb⟩
/-- the code of a sheet, a share, and whether numbers are as told -/
def bathC (o : Bool) (k : Int) (fi : Bool) : Int := if o then (if (decide (1 ≤ k) && decide (k ≤ 15)) && fi then 0 else 2) else 1
set_option maxHeartbeats 1000000 in
theorem lbath_any (s : Sh) (b : Nat) (k : Int) (fi : Bool) (w : World) (hs : w.heap[b]? = some (.cells (vrow 266 s.at) 36)) (hf : s.fit) :
    Calls Tryd.prog 64 #[.pointer (some ⟨b, 0, none⟩), .int .i64 k, .bool fi] w fun e w' => e = .returned (.int .i64 (bathC (okI s) k fi)) ∧ Below w.heap.size w w' := by
  have HO0 := fun w' hs => ok_any s b w' hs hf
  have HS0 := fun w => lshare_any k w
  rw [← ok_eq s hf] at HO0
  unfold bathC
  have hB : Hid (Below w.heap.size w w) := Below.refl _ _
  have P := Go.Lib.hid hs
  generalize okI s = o at *
  generalize (decide (1 ≤ k) && decide (k ≤ 15)) = sh at *
  have HO := Go.Lib.hid HO0; have HS := Go.Lib.hid HS0
  clear HO0 HS0 hs hf
  cases o <;> cases sh <;> cases fi
  all_goals
    go_enter Tryd.func64, Tryd.ntmps64
    go_wp2_with (first
      | go_skip
      | (go_at_call 55; (refine (HO.out _ P.out).mono ?_); rintro o w1 ⟨rfl, hb⟩; replace hB := Go.Lib.hid (below_next hB.out hb); clear hb)
      | (go_at_call 120; (refine (HS.out _).mono ?_); rintro o w1 ⟨rfl, hb⟩; replace hB := Go.Lib.hid (below_next hB.out hb); clear hb))
    go_ret
    exact ⟨rfl, hB.out⟩
set_option maxHeartbeats 2000000 in
theorem ckRi_bad (s : Sh) (k r : Int) (e : ErrE) (w : World) (hE : Errs e w) (ho : okI s = false) (hf : s.fit := by assumption) : Calls Tryd.prog 69 #[.agg s.row, .int .i64 k, .int .i64 r] w fun o w' => o = .returned (errP e 1) ∧ Below w.heap.size w w' := by
  have HC := Go.Lib.hid fun w hE => checkSheet_bad s ho e w hE
  have hB : Hid (Below w.heap.size w (w.alloc (.cells (vrow 266 s.at) 36))) := ((Below.refl w.heap.size w).alloc (by simp <;> omega) _)
  have P : Hid ((w.alloc (.cells (vrow 266 s.at) 36)).heap[(w.heap.size)]? = some (.cells (vrow 266 s.at) 36)) := heap_at _ _ _ (by simp)
  have E : Hid (Errs e (w.alloc (.cells (vrow 266 s.at) 36))) := hE.alloc _
  clear hE
  go_enter Tryd.func69, Tryd.ntmps69
  go_wp2_with (first | go_skip | (with_reducible refine wlAt 8 rfl ?_; refine wpList_loadall rfl 36 (.tmp 3) rfl _ rfl 266 s.at 36 _ Tryd.underlying36 rfl size_sheet P.out ?_) | (go_at_call 61; (refine (HC.out _ E.out).mono ?_; rintro o w1 ⟨rfl, hb⟩; replace P := Go.Lib.hid (row_next hb P.out); replace hB := Go.Lib.hid (below_next hB.out hb); replace E := Go.Lib.hid (E.out.next hb); clear hb)) | (with_reducible refine wlAt 27 rfl ?_; refine wpList_ld1 107 _ rfl (by first | exact want_n rfl | exact want_g _ _ _ rfl rfl rfl) 1 0 rfl 1 (fun _ => errP e 2) _ rw_err E.out.v2 (by omega) ?_))
  go_ret
  exact ⟨rfl, hB.out⟩
set_option maxHeartbeats 2000000 in
theorem ckRi_ok (s : Sh) (k r : Int) (e : ErrE) (w : World) (hE : Errs e w) (ho : okI s = true) (hk : 1 ≤ k ∧ k ≤ 15) (hr : 0 ≤ r ∧ r ≤ 100) : Calls Tryd.prog 69 #[.agg s.row, .int .i64 k, .int .i64 r] w fun o w' => o = .returned .nilIface ∧ Below w.heap.size w w' := by
  have HC := Go.Lib.hid fun w hE => checkSheet_ok s ho e w hE
  have q1 : decide (k < 1) = false := by simp; omega
  have q2 : decide (15 < k) = false := by simp; omega
  have q3 : decide (r < 0) = false := by simp; omega
  have q4 : decide (100 < r) = false := by simp; omega
  have hB : Hid (Below w.heap.size w (w.alloc (.cells (vrow 266 s.at) 36))) := ((Below.refl w.heap.size w).alloc (by simp <;> omega) _)
  have P : Hid ((w.alloc (.cells (vrow 266 s.at) 36)).heap[(w.heap.size)]? = some (.cells (vrow 266 s.at) 36)) := heap_at _ _ _ (by simp)
  have E : Hid (Errs e (w.alloc (.cells (vrow 266 s.at) 36))) := hE.alloc _
  clear hE
  go_enter Tryd.func69, Tryd.ntmps69
  go_wp2_with (first | go_skip | (with_reducible refine wlAt 8 rfl ?_; refine wpList_loadall rfl 36 (.tmp 3) rfl _ rfl 266 s.at 36 _ Tryd.underlying36 rfl size_sheet P.out ?_) | (go_at_call 61; (refine (HC.out _ E.out).mono ?_; rintro o w1 ⟨rfl, hb⟩; replace P := Go.Lib.hid (row_next hb P.out); replace hB := Go.Lib.hid (below_next hB.out hb); replace E := Go.Lib.hid (E.out.next hb); clear hb)) | (with_reducible refine wlAt 27 rfl ?_; refine wpList_ld1 107 _ rfl (by first | exact want_n rfl | exact want_g _ _ _ rfl rfl rfl) 1 0 rfl 1 (fun _ => errP e 2) _ rw_err E.out.v2 (by omega) ?_))
  go_ret
  exact ⟨rfl, hB.out⟩
set_option maxHeartbeats 8000000 in
theorem ckRi_rng (s : Sh) (k r : Int) (e : ErrE) (w : World) (hE : Errs e w) (ho : okI s = true) (hk : k < 1 ∨ 15 < k ∨ r < 0 ∨ 100 < r) : Calls Tryd.prog 69 #[.agg s.row, .int .i64 k, .int .i64 r] w fun o w' => o = .returned (errP e 2) ∧ Below w.heap.size w w' := by
  have HC := Go.Lib.hid fun w hE => checkSheet_ok s ho e w hE
  have hcs : (decide (k < 1) = true) ∨ (decide (k < 1) = false ∧ decide (15 < k) = true) ∨ (decide (k < 1) = false ∧ decide (15 < k) = false ∧ decide (r < 0) = true) ∨ (decide (k < 1) = false ∧ decide (15 < k) = false ∧ decide (r < 0) = false ∧ decide (100 < r) = true) := by
    simp only [decide_eq_true_eq, decide_eq_false_iff_not]; omega
  have hB : Hid (Below w.heap.size w (w.alloc (.cells (vrow 266 s.at) 36))) := ((Below.refl w.heap.size w).alloc (by simp <;> omega) _)
  have P : Hid ((w.alloc (.cells (vrow 266 s.at) 36)).heap[(w.heap.size)]? = some (.cells (vrow 266 s.at) 36)) := heap_at _ _ _ (by simp)
  have E : Hid (Errs e (w.alloc (.cells (vrow 266 s.at) 36))) := hE.alloc _
  clear hE hk
  rcases hcs with q1 | ⟨q1, q2⟩ | ⟨q1, q2, q3⟩ | ⟨q1, q2, q3, q4⟩
  all_goals
    go_enter Tryd.func69, Tryd.ntmps69
    go_wp2_with (first | go_skip | (with_reducible refine wlAt 8 rfl ?_; refine wpList_loadall rfl 36 (.tmp 3) rfl _ rfl 266 s.at 36 _ Tryd.underlying36 rfl size_sheet P.out ?_) | (go_at_call 61; (refine (HC.out _ E.out).mono ?_; rintro o w1 ⟨rfl, hb⟩; replace P := Go.Lib.hid (row_next hb P.out); replace hB := Go.Lib.hid (below_next hB.out hb); replace E := Go.Lib.hid (E.out.next hb); clear hb)) | (with_reducible refine wlAt 27 rfl ?_; refine wpList_ld1 107 _ rfl (by first | exact want_n rfl | exact want_g _ _ _ rfl rfl rfl) 1 0 rfl 1 (fun _ => errP e 2) _ rw_err E.out.v2 (by omega) ?_))
    go_ret
    exact ⟨rfl, hB.out⟩
end Go.Proofs.YtfgcpiipndhllaaDoor
