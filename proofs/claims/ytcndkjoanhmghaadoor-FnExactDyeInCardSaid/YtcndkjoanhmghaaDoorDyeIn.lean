import Derived.Test.YtcndkjoanhmghaaDoorSums
import Derived.Test.YtcndkjoanhmghaaDoorDry
namespace Go.Proofs.YtcndkjoanhmghaaDoor
open Go.RowKit
set_option maxRecDepth 100000
set_option linter.unusedVariables false
attribute [local go_sem] Oper.semAt_some
theorem rw_i64 : (Tryd.prog.underlying 2).map (·.isRow) = some false := by kernel_rfl
def Sh.ink (s : Sh) (i : Nat) : Sh := { s with wet := fun c => s.dye (3 * c + i) }
theorem ink_sum (s : Sh) (i : Nat) : ∀ c, wsum (s.ink i) c = isum s i c
  | 0 => rfl
  | c + 1 => by simp only [wsum, isum, ink_sum s i c]; rfl
theorem ink_bd (s : Sh) (hf : s.fit) (i : Nat) (hi : i < 3) (l : List Sp8) : -32768 * (l.length : Int) ≤ psumL (s.ink i) l ∧ psumL (s.ink i) l ≤ 32767 * (l.length : Int) := by
  induction l with
  | nil => simp [psumL]
  | cons p l ih =>
    obtain ⟨⟨x, y⟩, hx, hy⟩ := p
    have := hf.dye (3 * (8 * y + x) + i) (by simp at hx hy; omega)
    rw [show psumL (s.ink i) (⟨(x, y), hx, hy⟩ :: l) = s.dye (3 * (8 * y + x) + i) + psumL (s.ink i) l by simp only [psumL, List.foldl_cons]; rw [psum_from]; simp [psumL, Sh.ink]]
    simp only [List.length_cons]
    omega
theorem clear_out (s : Sh) (hv : okI s = true) (x y : Nat) (hx : x < 8) (hy : y < 8) (h : (s.wide ≤ x ∨ s.high ≤ y)) (i : Nat) (hi : i < 3) : s.dye (24 * y + 3 * x + i) = 0 := by
  have h1 := valid_at s hv x y hx hy
  have h2 : hasB s x y = false := by simp [hasB]; omega
  unfold validB at h1
  rw [h2] at h1
  simp [bareB] at h1
  obtain ⟨⟨_, a, b, c⟩, _⟩ := h1
  have : i = 0 ∨ i = 1 ∨ i = 2 := by omega
  rcases this with rfl | rfl | rfl <;> assumption
theorem ink_eq (s : Sh) (hv : okI s = true) (i : Nat) (hi : i < 3) : psumL (s.ink i) (cellsL s.wide.toNat s.high.toNat) = isum s i 64 := by
  have h := hv
  simp only [okI, Bool.and_eq_true, decide_eq_true_eq] at h
  have g := grid_sum (s.ink i) s.wide.toNat (by omega) (fun x y hy h1 h2 => by
    have := clear_out s hv x y h2 hy (by omega) i hi
    show s.dye (3 * (8 * y + x) + i) = 0
    rwa [show 3 * (8 * y + x) + i = 24 * y + 3 * x + i by omega]) s.high.toNat (by omega)
  have r := rest_zero (s.ink i) s.high.toNat (fun c h1 h2 => by
    have := clear_out s hv (c % 8) (c / 8) (by omega) (by omega) (Or.inr (by omega)) i hi
    show s.dye (3 * c + i) = 0
    rwa [show 24 * (c / 8) + 3 * (c % 8) + i = 3 * c + i by omega] at this) (64 - 8 * s.high.toNat) (by omega)
  rw [show 8 * s.high.toNat + (64 - 8 * s.high.toNat) = 64 by omega] at r
  rw [← ink_sum]
  omega
/-- the program's sums: behind the cells of l, and, for the inks below i, behind p too -/
def inkF (s : Sh) (l : List Sp8) (m : Nat) : Value := .int .i64 (psumL (s.ink m) l)
def inkG (s : Sh) (l : List Sp8) (p : Sp8) (i m : Nat) : Value := .int .i64 (if m < i then psumL (s.ink m) (l ++ [p]) else psumL (s.ink m) l)
theorem inkG_0 (s : Sh) (l : List Sp8) (p : Sp8) : vrow 3 (inkF s l) = vrow 3 (inkG s l p 0) := vrow_ext _ _ _ fun i _ => by simp [inkF, inkG]
theorem inkG_3 (s : Sh) (l : List Sp8) (p : Sp8) : vrow 3 (inkG s l p 3) = vrow 3 (inkF s (l ++ [p])) := vrow_ext _ _ _ fun i hi => by simp [inkF, inkG, hi]
theorem inkG_at (s : Sh) (l : List Sp8) (p : Sp8) (i : Nat) : inkG s l p i i = .int .i64 (psumL (s.ink i) l) := by simp [inkG]
theorem inkG_step (s : Sh) (l : List Sp8) (p : Sp8) (i : Nat) : vrow 3 (over (inkG s l p i) i 1 fun _ => .int .i64 (psumL (s.ink i) (l ++ [p]))) = vrow 3 (inkG s l p (i + 1)) := vrow_ext _ _ _ fun m _ => by
  unfold over inkG
  by_cases h : i ≤ m ∧ m < i + 1
  · obtain rfl : m = i := by omega
    rw [if_pos h, if_pos (by omega)]
  · rw [if_neg h]
    by_cases h2 : m < i
    · rw [if_pos h2, if_pos (by omega)]
    · rw [if_neg h2, if_neg (by omega)]
theorem inkF_all (s : Sh) (hv : okI s = true) : vrow 3 (inkF s (cellsL s.wide.toNat s.high.toNat)) = vrow 3 (sumsF s 64 0) := vrow_ext _ _ _ fun i hi => by simp [inkF, sumsF, ink_eq s hv i hi]
theorem inkF_nil (s : Sh) : vrow 3 (fun _ => .int .i64 0) = vrow 3 (inkF s []) := vrow_ext _ _ _ fun i _ => by simp [inkF, psumL]
theorem wpListIn_valued {r n : Nat} {P : Program} {ops : Array Oper} {Q : Exit → Act → World → Prop} {rest : List Oper} {o : Oper} {a : Act} {w w' : World} {v : Value} (hgd : o.guard = none) (hd : ∀ c, o.op ≠ .defer c)
    (hrun : (execOp a.eval o).run P w = .ok (.value v) w') (h : wpListIn (Fence.wide.inRound r) n P ops Q rest (a.put o.dst v) w') : wpListIn (Fence.wide.inRound r) n P ops Q (o :: rest) a w := by
  refine wpListIn_plain hgd fun K hK => ⟨fun _ _ => trivial, ?_⟩
  show o.uponIn _ n P a K Q ((o.semAt (some r) a.eval).run P w)
  rw [Oper.semAt_eq _ _ _ hd, hrun]
  exact hK _ _ h
/-- LOAD of one cell, in a round. -/
theorem wpListIn_load1 {r n' : Nat} {P : Program} {ops : Array Oper} {rest : List Oper} {o : Oper} {a : Act} {w : World} {Q : Exit → Act → World → Prop} (hgd : o.guard = none) (ty : TypeId) (x : Operand) (ho : o.op = .load ty x)
    (b off : Nat) (hx : a.eval x = .pointer (some ⟨b, off, none⟩)) (n : Nat) (f : Nat → Value) (t : TypeId) (d : TypeDesc) (hu : P.underlying ty = some d) (hd : d.isRow = false)
    (hg : w.heap[b]? = some (.cells (vrow n f) t)) (hb : off < n)
    (h : wpListIn (Fence.wide.inRound r) n' P ops Q rest (a.put o.dst (f off)) w) : wpListIn (Fence.wide.inRound r) n' P ops Q (o :: rest) a w := by
  have hc := cell_row hg hb
  have hr : (Instr.loadAt ty (.pointer (some ⟨b, off, none⟩))).run P w = .ok (f off) w := by
    simp only [Instr.loadAt, Instr.sureAddr, Sem.run_bind, Sem.run_pure, Result.andThen_ok, loadVar, run_isAgg_row w ty d hu, hd, Bool.false_eq_true, if_false, run_load, hc]
  exact wpListIn_valued hgd (fun c hc => by rw [ho] at hc; cases hc) (by unfold execOp; simp only [ho, hx, Sem.run_bind, hr, Result.andThen_ok, Sem.run_pure]) h
/-- The results: a row and a slot. -/
theorem res_row2 {P : Program} {fn : Func} {p u : Tmp} {ty : TypeId} (hr : fn.results = #[.cell p ty, .tmp u]) (tmps : Array Value) (w : World) (b : Nat) (n : Nat) (f : Nat → Value) (t : TypeId) (d : TypeDesc) (hu : P.underlying ty = some d) (hd : d.isRow = true) (hi : (P.info? ty).map (·.size) = some n) (v : Value)
    (hp : tmps.getD p undef = .pointer (some ⟨b, 0, none⟩)) (hv : tmps.getD u undef = v) (hg : w.heap[b]? = some (.cells (vrow n f) t)) : (results fn tmps).run P w = .ok (.tuple #[.agg (vrow n f), v]) w := by
  have hl := run_loadVar_row (P := P) w b t ty (vrow n f) (0, 0) d hg hu (by cases d <;> first | rfl | exact hd) (by rw [vrow_size]; exact hi)
  rw [results_cell_tmp hr, hp, hv]
  simp [asAddr, hl, Result.andThen]
set_option maxHeartbeats 400000 in
theorem eqA3_any (f : Nat → Value) (g : Nat → Int) (hfg : ∀ i, i < 3 → f i = .int .i64 (g i)) (w : World) : Calls Tryd.prog 34 #[.agg (vrow 3 f), .agg (vrow 3 f)] w fun e w' => e = .returned (.bool true) ∧ Below w.heap.size w w' := by
  have hB : Hid (Below w.heap.size w ((w.alloc (.cells (vrow 3 f) 53)).alloc (.cells (vrow 3 f) 53))) := (((Below.refl w.heap.size w).alloc (by simp <;> omega) _).alloc (by simp <;> omega) _)
  have P : Hid (((w.alloc (.cells (vrow 3 f) 53)).alloc (.cells (vrow 3 f) 53)).heap[(w.heap.size)]? = some (.cells (vrow 3 f) 53)) := heap_past _ _ _ _ (by first | omega | (simp <;> omega)) (heap_at _ _ _ (by simp))
  have R : Hid (((w.alloc (.cells (vrow 3 f) 53)).alloc (.cells (vrow 3 f) 53)).heap[(w.heap.size + 1)]? = some (.cells (vrow 3 f) 53)) := heap_at _ _ _ (by simp)
  go_enter Tryd.func34, Tryd.ntmps34
  go_wp2
  go_loopw [5] (fun i wr => ∃ k : Nat, k ≤ 3 ∧ i = .int .i64 k ∧ Below w.heap.size w wr ∧ wr.heap[w.heap.size]? = some (.cells (vrow 3 f) 53) ∧ wr.heap[w.heap.size + 1]? = some (.cells (vrow 3 f) 53)) (fun i _ => 3 - (intOf i).toNat)
  case atStart => exact ⟨0, by omega, rfl, hB.out, P.out, R.out⟩
  case round =>
    clear hB P R
    obtain ⟨k, hk, rfl, hB, P, R⟩ := hrel
    replace hB := Go.Lib.hid hB; replace P := Go.Lib.hid P; replace R := Go.Lib.hid R
    by_cases hlt : k < 3
    · have hxI : (k : Int) < 3 := by omega
      go_wp2
      (refine region_at (by kernel_rfl) (by kernel_rfl) ?_; intro W hW; rw [hW] at hB P R; clear hW; have P' := Go.Lib.hid (cls_row' P.out); have R' := Go.Lib.hid (cls_row' R.out); (repeat (first | go_big_quiet_skip | (refine wpQuiet_load1 2 _ rfl (by first | exact want_n rfl | exact want_g _ _ _ rfl rfl rfl) (w.heap.size) _ rfl 3 f _ rw_i64 P'.out (by omega) ?_; rw [hfg k hlt]; simp only [Act.put, List.setIfInBounds_toArray, List.set_cons_succ, List.set_cons_zero]) | (refine wpQuiet_load1 2 _ rfl (by first | exact want_n rfl | exact want_g _ _ _ rfl rfl rfl) (w.heap.size + 1) _ rfl 3 f _ rw_i64 R'.out (by omega) ?_; rw [hfg k hlt]; simp only [Act.put, List.setIfInBounds_toArray, List.set_cons_succ, List.set_cons_zero]) | go_big_quiet_step (fail))); refine wpQuiet_nil ?_; intro Wn hb; replace P := Go.Lib.hid (row_next hb P.out); replace R := Go.Lib.hid (row_next hb R.out); replace hB := Go.Lib.hid (below_next hB.out hb); clear hb P' R')
      go_wp2
      go_roundw
      case rel => exact ⟨k + 1, by omega, by go_num, hB.out, P.out, R.out⟩
      case measure => simp [intOf]; omega
    · obtain rfl : k = 3 := by omega
      go_wp2
      go_ret
      exact ⟨rfl, hB.out⟩
set_option maxHeartbeats 400000 in
theorem specDyeIn_bad (s : Sh) (w : World) (hf : s.fit) (hv : okI s = false) : Calls Tryd.prog 32 #[.agg s.row] w fun e w' => e = .returned (.tuple #[.agg (vrow 3 (fun _ => .int .i64 0)), .int .i64 1]) ∧ Below w.heap.size w w' := by
  have zz := zero_a3
  have HO0 := fun w' hs => ok_any s w.heap.size w' hs hf
  rw [← ok_eq s hf, hv] at HO0
  have HO := Go.Lib.hid HO0
  have HW := Go.Lib.hid fun w' hs => lsums_any s w.heap.size w' hs hf
  clear HO0 hv
  have hB : Hid (Below w.heap.size w ((w.alloc (.cells (vrow 266 s.at) 38)).alloc (.cells (vrow 3 (fun _ => .int .i64 0)) 53))) := (((Below.refl w.heap.size w).alloc (by simp <;> omega) _).alloc (by simp <;> omega) _)
  have P : Hid (((w.alloc (.cells (vrow 266 s.at) 38)).alloc (.cells (vrow 3 (fun _ => .int .i64 0)) 53)).heap[(w.heap.size)]? = some (.cells (vrow 266 s.at) 38)) := heap_past _ _ _ _ (by first | omega | (simp <;> omega)) (heap_at _ _ _ (by simp))
  have Z : Hid (((w.alloc (.cells (vrow 266 s.at) 38)).alloc (.cells (vrow 3 (fun _ => .int .i64 0)) 53)).heap[(w.heap.size + 1)]? = some (.cells (vrow 3 (fun _ => .int .i64 0)) 53)) := heap_at _ _ _ (by simp)
  go_enter Tryd.func32, Tryd.ntmps32
  go_wp2_with (first
    | (go_at_call 63; refine (HO.out _ P.out).mono ?_; rintro o w1 ⟨rfl, hb⟩; replace P := Go.Lib.hid (row_next hb P.out); replace Z := Go.Lib.hid (row_next hb Z.out); replace hB := Go.Lib.hid (below_next hB.out hb); clear hb)
    | (go_at_call 64; refine (HW.out _ P.out).mono ?_; rintro o w1 ⟨rfl, hb⟩; replace P := Go.Lib.hid (row_next hb P.out); replace Z := Go.Lib.hid (row_next hb Z.out); replace hB := Go.Lib.hid (below_next hB.out hb); clear hb)
    | (refine wpList_built rfl 53 [] rfl [] (by rfl) _ built_a3 ?_)
    | (refine wpList_storeall rfl 53 (.tmp 2) (.tmp 7) rfl (w.heap.size + 1) rfl 3 (fun _ => .int .i64 0) (sumsF s 64 0) rfl 53 size_a3 Z.out (fun i _ => rfl) ?_; replace Z := Go.Lib.hid (row_set Z.out (vrow 3 (sumsF s 64 0))); replace hB := Go.Lib.hid (Below_setRow hB.out (show w.heap.size ≤ w.heap.size + 1 by omega) (vrow 3 (sumsF s 64 0))))
    | (refine wpList_storeall rfl 53 (.tmp 2) (.tmp 6) rfl (w.heap.size + 1) rfl 3 (fun _ => .int .i64 0) (fun _ => .int .i64 0) rfl 53 size_a3 Z.out (fun i _ => rfl) ?_; replace Z := Go.Lib.hid (row_set Z.out (vrow 3 (fun _ => .int .i64 0))); replace hB := Go.Lib.hid (Below_setRow hB.out (show w.heap.size ≤ w.heap.size + 1 by omega) (vrow 3 (fun _ => .int .i64 0)))))
  exact ret_row2 Tryd.results32 (w.heap.size + 1) 3 (fun _ => .int .i64 0) 53 _ Tryd.underlying53 rfl size_a3 (.int .i64 1) rfl rfl rfl Z.out ⟨rfl, hB.out⟩
set_option maxHeartbeats 400000 in
theorem specDyeIn_ok (s : Sh) (w : World) (hf : s.fit) (hv : okI s = true) : Calls Tryd.prog 32 #[.agg s.row] w fun e w' => e = .returned (.tuple #[.agg (vrow 3 (sumsF s 64 0)), .int .i64 0]) ∧ Below w.heap.size w w' := by
  have zz := zero_a3
  have HO0 := fun w' hs => ok_any s w.heap.size w' hs hf
  rw [← ok_eq s hf, hv] at HO0
  have HO := Go.Lib.hid HO0
  have HW := Go.Lib.hid fun w' hs => lsums_any s w.heap.size w' hs hf
  clear HO0 hv
  have hB : Hid (Below w.heap.size w ((w.alloc (.cells (vrow 266 s.at) 38)).alloc (.cells (vrow 3 (fun _ => .int .i64 0)) 53))) := (((Below.refl w.heap.size w).alloc (by simp <;> omega) _).alloc (by simp <;> omega) _)
  have P : Hid (((w.alloc (.cells (vrow 266 s.at) 38)).alloc (.cells (vrow 3 (fun _ => .int .i64 0)) 53)).heap[(w.heap.size)]? = some (.cells (vrow 266 s.at) 38)) := heap_past _ _ _ _ (by first | omega | (simp <;> omega)) (heap_at _ _ _ (by simp))
  have Z : Hid (((w.alloc (.cells (vrow 266 s.at) 38)).alloc (.cells (vrow 3 (fun _ => .int .i64 0)) 53)).heap[(w.heap.size + 1)]? = some (.cells (vrow 3 (fun _ => .int .i64 0)) 53)) := heap_at _ _ _ (by simp)
  go_enter Tryd.func32, Tryd.ntmps32
  go_wp2_with (first
    | (go_at_call 63; refine (HO.out _ P.out).mono ?_; rintro o w1 ⟨rfl, hb⟩; replace P := Go.Lib.hid (row_next hb P.out); replace Z := Go.Lib.hid (row_next hb Z.out); replace hB := Go.Lib.hid (below_next hB.out hb); clear hb)
    | (go_at_call 64; refine (HW.out _ P.out).mono ?_; rintro o w1 ⟨rfl, hb⟩; replace P := Go.Lib.hid (row_next hb P.out); replace Z := Go.Lib.hid (row_next hb Z.out); replace hB := Go.Lib.hid (below_next hB.out hb); clear hb)
    | (refine wpList_built rfl 53 [] rfl [] (by rfl) _ built_a3 ?_)
    | (refine wpList_storeall rfl 53 (.tmp 2) (.tmp 7) rfl (w.heap.size + 1) rfl 3 (fun _ => .int .i64 0) (sumsF s 64 0) rfl 53 size_a3 Z.out (fun i _ => rfl) ?_; replace Z := Go.Lib.hid (row_set Z.out (vrow 3 (sumsF s 64 0))); replace hB := Go.Lib.hid (Below_setRow hB.out (show w.heap.size ≤ w.heap.size + 1 by omega) (vrow 3 (sumsF s 64 0))))
    | (refine wpList_storeall rfl 53 (.tmp 2) (.tmp 6) rfl (w.heap.size + 1) rfl 3 (fun _ => .int .i64 0) (fun _ => .int .i64 0) rfl 53 size_a3 Z.out (fun i _ => rfl) ?_; replace Z := Go.Lib.hid (row_set Z.out (vrow 3 (fun _ => .int .i64 0))); replace hB := Go.Lib.hid (Below_setRow hB.out (show w.heap.size ≤ w.heap.size + 1 by omega) (vrow 3 (fun _ => .int .i64 0)))))
  exact ret_row2 Tryd.results32 (w.heap.size + 1) 3 (sumsF s 64 0) 53 _ Tryd.underlying53 rfl size_a3 (.int .i64 0) rfl rfl rfl Z.out ⟨rfl, hB.out⟩
set_option maxHeartbeats 400000 in
theorem implDyeIn_bad (s : Sh) (e : ErrE) (w : World) (hE : Errs e w) (hv : okI s = false) : Calls Tryd.prog 33 #[.agg s.row] w fun o w' => o = .returned (.tuple #[.agg (vrow 3 (fun _ => .int .i64 0)), .int .i64 1]) ∧ Below w.heap.size w w' := by
  have zz := zero_a3
  have HC := Go.Lib.hid fun w hE => checkSheet_bad s hv e w hE
  clear hv
  have hB : Hid (Below w.heap.size w ((w.alloc (.cells (vrow 266 s.at) 38)).alloc (.cells (vrow 3 (fun _ => .int .i64 0)) 53))) := (((Below.refl w.heap.size w).alloc (by simp <;> omega) _).alloc (by simp <;> omega) _)
  have P : Hid (((w.alloc (.cells (vrow 266 s.at) 38)).alloc (.cells (vrow 3 (fun _ => .int .i64 0)) 53)).heap[(w.heap.size)]? = some (.cells (vrow 266 s.at) 38)) := heap_past _ _ _ _ (by first | omega | (simp <;> omega)) (heap_at _ _ _ (by simp))
  have Z : Hid (((w.alloc (.cells (vrow 266 s.at) 38)).alloc (.cells (vrow 3 (fun _ => .int .i64 0)) 53)).heap[(w.heap.size + 1)]? = some (.cells (vrow 3 (fun _ => .int .i64 0)) 53)) := heap_at _ _ _ (by simp)
  go_enter Tryd.func33, Tryd.ntmps33
  go_wp2_with (first
    | (refine wpList_loadall rfl 38 (.tmp 1) rfl _ rfl 266 s.at 38 _ Tryd.underlying38 rfl size_sheet P.out ?_)
    | (go_at_call 65; refine (HC.out _ (hE.next hB.out)).mono ?_; rintro o w1 ⟨rfl, hb⟩; replace P := Go.Lib.hid (row_next hb P.out); replace Z := Go.Lib.hid (row_next hb Z.out); replace hB := Go.Lib.hid (below_next hB.out hb); clear hb)
    | (go_at_call 50; refine (codeOf_1 e _ (hE.next hB.out)).mono ?_; rintro o w1 ⟨rfl, hb⟩; replace P := Go.Lib.hid (row_next hb P.out); replace Z := Go.Lib.hid (row_next hb Z.out); replace hB := Go.Lib.hid (below_next hB.out hb); clear hb)
    | (refine wpList_built rfl 53 [] rfl [] (by rfl) _ built_a3 ?_)
    | (refine wpList_storeall rfl 53 (.tmp 2) (.tmp 13) rfl (w.heap.size + 1) rfl 3 (fun _ => .int .i64 0) (fun _ => .int .i64 0) rfl 53 size_a3 Z.out (fun i _ => rfl) ?_; replace Z := Go.Lib.hid (row_set Z.out (vrow 3 (fun _ => .int .i64 0))); replace hB := Go.Lib.hid (Below_setRow hB.out (show w.heap.size ≤ w.heap.size + 1 by omega) (vrow 3 (fun _ => .int .i64 0)))))
  exact ret_row2 Tryd.results33 (w.heap.size + 1) 3 (fun _ => .int .i64 0) 53 _ Tryd.underlying53 rfl size_a3 (.int .i64 1) rfl rfl rfl Z.out ⟨rfl, hB.out⟩
end Go.Proofs.YtcndkjoanhmghaaDoor
