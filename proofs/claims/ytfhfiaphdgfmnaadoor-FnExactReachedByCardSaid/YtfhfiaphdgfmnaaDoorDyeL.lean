import Derived.Test.YtfhfiaphdgfmnaaDoorSums
namespace Go.Proofs.YtfhfiaphdgfmnaaDoor
open Go.RowKit
set_option maxRecDepth 100000
set_option linter.unusedVariables false
attribute [local go_sem] Oper.semAt_some
theorem rw_i64 : (Tryd.prog.underlying 2).map (·.isRow) = some false := by kernel_rfl
def Sh.ink (s : Sh) (i : Nat) : Sh := { s with wet := fun c => s.dye (3 * c + i) }
theorem ink_sum (s : Sh) (i : Nat) : ∀ c, wsum (s.ink i) c = isum s i c
  | 0 => rfl
  | c + 1 => by simp only [wsum, isum, ink_sum s i c]; rfl
theorem ink_bd (s : Sh) (hf : s.fit) (i : Nat) (hi : i < 3) (l : List Sp8) : -32768 * (l.length : Int) ≤ psumL (s.ink i) l ∧ psumL (s.ink i) l ≤ 32767 * (l.length : Int) := by
  induction l with
  | nil => simp [psumL]
  | cons p l ih =>
    obtain ⟨⟨x, y⟩, hx, hy⟩ := p
    have := hf.dye (3 * (8 * y + x) + i) (by simp at hx hy; omega)
    rw [show psumL (s.ink i) (⟨(x, y), hx, hy⟩ :: l) = s.dye (3 * (8 * y + x) + i) + psumL (s.ink i) l by simp only [psumL, List.foldl_cons]; rw [psum_from]; simp [psumL, Sh.ink]]
    simp only [List.length_cons]
    omega
theorem clear_out (s : Sh) (hv : okI s = true) (x y : Nat) (hx : x < 8) (hy : y < 8) (h : (s.wide ≤ x ∨ s.high ≤ y)) (i : Nat) (hi : i < 3) : s.dye (24 * y + 3 * x + i) = 0 := by
  have h1 := valid_at s hv x y hx hy
  have h2 : hasB s x y = false := by simp [hasB]; omega
  unfold validB at h1
  rw [h2] at h1
  simp [bareB] at h1
  obtain ⟨⟨_, a, b, c⟩, _⟩ := h1
  have : i = 0 ∨ i = 1 ∨ i = 2 := by omega
  rcases this with rfl | rfl | rfl <;> assumption
theorem ink_eq (s : Sh) (hv : okI s = true) (i : Nat) (hi : i < 3) : psumL (s.ink i) (cellsL s.wide.toNat s.high.toNat) = isum s i 64 := by
  have h := hv
  simp only [okI, Bool.and_eq_true, decide_eq_true_eq] at h
  have g := grid_sum (s.ink i) s.wide.toNat (by omega) (fun x y hy h1 h2 => by
    have := clear_out s hv x y h2 hy (by omega) i hi
    show s.dye (3 * (8 * y + x) + i) = 0
    rwa [show 3 * (8 * y + x) + i = 24 * y + 3 * x + i by omega]) s.high.toNat (by omega)
  have r := rest_zero (s.ink i) s.high.toNat (fun c h1 h2 => by
    have := clear_out s hv (c % 8) (c / 8) (by omega) (by omega) (Or.inr (by omega)) i hi
    show s.dye (3 * c + i) = 0
    rwa [show 24 * (c / 8) + 3 * (c % 8) + i = 3 * c + i by omega] at this) (64 - 8 * s.high.toNat) (by omega)
  rw [show 8 * s.high.toNat + (64 - 8 * s.high.toNat) = 64 by omega] at r
  rw [← ink_sum]
  omega
/-- the program's sums: behind the cells of l, and, for the inks below i, behind p too -/
def inkF (s : Sh) (l : List Sp8) (m : Nat) : Value := .int .i64 (psumL (s.ink m) l)
def inkG (s : Sh) (l : List Sp8) (p : Sp8) (i m : Nat) : Value := .int .i64 (if m < i then psumL (s.ink m) (l ++ [p]) else psumL (s.ink m) l)
theorem inkG_0 (s : Sh) (l : List Sp8) (p : Sp8) : vrow 3 (inkF s l) = vrow 3 (inkG s l p 0) := vrow_ext _ _ _ fun i _ => by simp [inkF, inkG]
theorem inkG_3 (s : Sh) (l : List Sp8) (p : Sp8) : vrow 3 (inkG s l p 3) = vrow 3 (inkF s (l ++ [p])) := vrow_ext _ _ _ fun i hi => by simp [inkF, inkG, hi]
theorem inkG_at (s : Sh) (l : List Sp8) (p : Sp8) (i : Nat) : inkG s l p i i = .int .i64 (psumL (s.ink i) l) := by simp [inkG]
theorem inkG_step (s : Sh) (l : List Sp8) (p : Sp8) (i : Nat) : vrow 3 (over (inkG s l p i) i 1 fun _ => .int .i64 (psumL (s.ink i) (l ++ [p]))) = vrow 3 (inkG s l p (i + 1)) := vrow_ext _ _ _ fun m _ => by
  unfold over inkG
  by_cases h : i ≤ m ∧ m < i + 1
  · obtain rfl : m = i := by omega
    rw [if_pos h, if_pos (by omega)]
  · rw [if_neg h]
    by_cases h2 : m < i
    · rw [if_pos h2, if_pos (by omega)]
    · rw [if_neg h2, if_neg (by omega)]
theorem inkF_all (s : Sh) (hv : okI s = true) : vrow 3 (inkF s (cellsL s.wide.toNat s.high.toNat)) = vrow 3 (sumsF s 64 0) := vrow_ext _ _ _ fun i hi => by simp [inkF, sumsF, ink_eq s hv i hi]
theorem inkF_nil (s : Sh) : vrow 3 (fun _ => .int .i64 0) = vrow 3 (inkF s []) := vrow_ext _ _ _ fun i _ => by simp [inkF, psumL]
theorem wpListIn_valued {r n : Nat} {P : Program} {ops : Array Oper} {Q : Exit → Act → World → Prop} {rest : List Oper} {o : Oper} {a : Act} {w w' : World} {v : Value} (hgd : o.guard = none) (hd : ∀ c, o.op ≠ .defer c)
    (hrun : (execOp a.eval o).run P w = .ok (.value v) w') (h : wpListIn (Fence.wide.inRound r) n P ops Q rest (a.put o.dst v) w') : wpListIn (Fence.wide.inRound r) n P ops Q (o :: rest) a w := by
  refine wpListIn_plain hgd fun K hK => ⟨fun _ _ => trivial, ?_⟩
  show o.uponIn _ n P a K Q ((o.semAt (some r) a.eval).run P w)
  rw [Oper.semAt_eq _ _ _ hd, hrun]
  exact hK _ _ h
/-- LOAD of one cell, in a round. -/
theorem wpListIn_load1 {r n' : Nat} {P : Program} {ops : Array Oper} {rest : List Oper} {o : Oper} {a : Act} {w : World} {Q : Exit → Act → World → Prop} (hgd : o.guard = none) (ty : TypeId) (x : Operand) (ho : o.op = .load ty x)
    (b off : Nat) (hx : a.eval x = .pointer (some ⟨b, off, none⟩)) (n : Nat) (f : Nat → Value) (t : TypeId) (d : TypeDesc) (hu : P.underlying ty = some d) (hd : d.isRow = false)
    (hg : w.heap[b]? = some (.cells (vrow n f) t)) (hb : off < n)
    (h : wpListIn (Fence.wide.inRound r) n' P ops Q rest (a.put o.dst (f off)) w) : wpListIn (Fence.wide.inRound r) n' P ops Q (o :: rest) a w := by
  have hc := cell_row hg hb
  have hr : (Instr.loadAt ty (.pointer (some ⟨b, off, none⟩))).run P w = .ok (f off) w := by
    simp only [Instr.loadAt, Instr.sureAddr, Sem.run_bind, Sem.run_pure, Result.andThen_ok, loadVar, run_isAgg_row w ty d hu, hd, Bool.false_eq_true, if_false, run_load, hc]
  exact wpListIn_valued hgd (fun c hc => by rw [ho] at hc; cases hc) (by unfold execOp; simp only [ho, hx, Sem.run_bind, hr, Result.andThen_ok, Sem.run_pure]) h
/-- The results: a row and a slot. -/
theorem res_row2 {P : Program} {fn : Func} {p u : Tmp} {ty : TypeId} (hr : fn.results = #[.cell p ty, .tmp u]) (tmps : Array Value) (w : World) (b : Nat) (n : Nat) (f : Nat → Value) (t : TypeId) (d : TypeDesc) (hu : P.underlying ty = some d) (hd : d.isRow = true) (hi : (P.info? ty).map (·.size) = some n) (v : Value)
    (hp : tmps.getD p undef = .pointer (some ⟨b, 0, none⟩)) (hv : tmps.getD u undef = v) (hg : w.heap[b]? = some (.cells (vrow n f) t)) : (results fn tmps).run P w = .ok (.tuple #[.agg (vrow n f), v]) w := by
  have hl := run_loadVar_row (P := P) w b t ty (vrow n f) (0, 0) d hg hu (by cases d <;> first | rfl | exact hd) (by rw [vrow_size]; exact hi)
  rw [results_cell_tmp hr, hp, hv]
  simp [asAddr, hl, Result.andThen]
end Go.Proofs.YtfhfiaphdgfmnaaDoor
