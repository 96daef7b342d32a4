import Derived.OwnWalkIn
import Derived.RangeFuncNested
import Derived.RangeFuncLeaves
import Derived.Test.YtmcpaangofdmpaaDoorPathK
import Derived.Test.YtmcpaangofdmpaaDoorPathR
import Derived.Test.YtmcpaangofdmpaaDoorG1
namespace Go.Proofs.YtmcpaangofdmpaaDoor
open Go.RowKit
set_option maxRecDepth 100000
set_option linter.unusedVariables false
set_option linter.unusedSimpArgs false
theorem wlAtB (d : Nat) {F : Fence} {n : Nat} {P : Program} {ops : Array Oper} {Q : Exit → Act → World → Prop} {l : List Oper} {o : Oper} {a : Act} {w : World} (_ : o.dst = some d) (h : wpListIn F n P ops Q (o :: l) a w) : wpListIn F n P ops Q (o :: l) a w := h
theorem wlOpB (p : Op) {F : Fence} {n : Nat} {P : Program} {ops : Array Oper} {Q : Exit → Act → World → Prop} {l : List Oper} {o : Oper} {a : Act} {w : World} (_ : o.op = p) (h : wpListIn F n P ops Q (o :: l) a w) : wpListIn F n P ops Q (o :: l) a w := h
theorem valuedB {F : Fence} {n : Nat} {P : Program} {ops : Array Oper} {Q : Exit → Act → World → Prop} {rest : List Oper} {o : Oper} {a : Act} {w w' : World} {v : Value} (hgd : o.guard = none) (hd : ∀ c, o.op ≠ .defer c) (hc : ∀ c, o.op ≠ .call c)
    (hrun : (execOp a.eval o).run P w = .ok (.value v) w') (h : wpListIn F n P ops Q rest (a.put o.dst v) w') : wpListIn F n P ops Q (o :: rest) a w := by
  refine wpListIn_plain hgd fun K hK => ⟨?_, ?_⟩
  · intro g hg
    cases ho : o.op <;> first | exact absurd ho (hc _) | (simp [Oper.about, ho] at hg)
  · show o.uponIn _ n P a K Q ((o.semAt F.round a.eval).run P w)
    rw [Oper.semAt_plain F _ _ hd, hrun]
    exact hK _ _ h
theorem loadoneB {F : Fence} {n' : Nat} {P : Program} {ops : Array Oper} {rest : List Oper} {o : Oper} {a : Act} {w : World} {Q : Exit → Act → World → Prop} (hgd : o.guard = none) (ty : TypeId) (x : Operand) (ho : o.op = .load ty x)
    (b off : Nat) (hx : a.eval x = .pointer (some ⟨b, off, none⟩)) (n : Nat) (f : Nat → Value) (t : TypeId) (d : TypeDesc) (hu : P.underlying ty = some d) (hd : d.isRow = false)
    (hg : w.heap[b]? = some (.cells (vrow n f) t)) (hb : off < n)
    (h : wpListIn F n' P ops Q rest (a.put o.dst (f off)) w) : wpListIn F n' P ops Q (o :: rest) a w := by
  have hc := cell_row hg hb
  have hr : (Instr.loadAt ty (.pointer (some ⟨b, off, none⟩))).run P w = .ok (f off) w := by
    simp only [Instr.loadAt, Instr.sureAddr, Sem.run_bind, Sem.run_pure, Result.andThen_ok, loadVar, run_isAgg_row w ty d hu, hd, Bool.false_eq_true, if_false, run_load, hc]
  exact valuedB hgd (fun c hc => by rw [ho] at hc; cases hc) (fun c hc => by rw [ho] at hc; cases hc) (by unfold execOp; simp only [ho, hx, Sem.run_bind, hr, Result.andThen_ok, Sem.run_pure]) h
theorem loadmidB {F : Fence} {n' : Nat} {P : Program} {ops : Array Oper} {rest : List Oper} {o : Oper} {a : Act} {w : World} {Q : Exit → Act → World → Prop} (hgd : o.guard = none) (ty : TypeId) (x : Operand) (ho : o.op = .load ty x)
    (b off : Nat) (hx : a.eval x = .pointer (some ⟨b, off, none⟩)) (n m : Nat) (f : Nat → Value) (t : TypeId) (d : TypeDesc) (hu : P.underlying ty = some d) (hd : d.isRow = true) (hi : (P.info? ty).map (·.size) = some m)
    (hg : w.heap[b]? = some (.cells (vrow n f) t)) (hb : off + m ≤ n)
    (h : wpListIn F n' P ops Q rest (a.put o.dst (.agg (vrow m fun i => f (off + i)))) w) : wpListIn F n' P ops Q (o :: rest) a w := by
  have hr := run_loadAt_mid (P := P) w b off ty ((List.range m).map fun i => f (off + i)) d (fun j v hj => by
    have hjm : j < m := by
      by_cases c : j < m
      · exact c
      · rw [List.getElem?_eq_none (by simp; omega)] at hj; cases hj
    rw [cell_row hg (by omega)]
    simp [hjm] at hj; rw [hj]) hu hd (by simpa using hi)
  refine valuedB hgd (fun c hc => by rw [ho] at hc; cases hc) (fun c hc => by rw [ho] at hc; cases hc) (v := .agg (vrow m fun i => f (off + i))) (w' := w) (by unfold execOp; simp only [ho, hx, Sem.run_bind, hr, Result.andThen_ok, Sem.run_pure]; simp [vrow]) h
structure CkB (N b1 b2 : Nat) (X Y : World) : Prop where
  keep : KeepsFrom N X Y
  kp : Kp2 b1 b2 X Y
  s1 : b1 < Y.heap.size
  s2 : b2 < Y.heap.size
theorem CkB.start {N b1 b2 : Nat} {X : World} (h1 : b1 < X.heap.size) (h2 : b2 < X.heap.size) : CkB N b1 b2 X X := ⟨KeepsFrom.refl _ _, ⟨rfl, rfl⟩, h1, h2⟩
theorem CkB.step {N b1 b2 : Nat} {X Y Z : World} (h : CkB N b1 b2 X Y) {row : Option Nat} (hg : Y.grownBy Z row) (hr : ∀ j, row = some j → j < N ∧ j ≠ b1 ∧ j ≠ b2) : CkB N b1 b2 X Z :=
  ⟨h.keep.trans (KeepsFrom.of_grownBy hg fun j e => (hr j e).1), ⟨(hg.block b1 h.s1 fun e => (hr b1 e.symm).2.1 rfl).trans h.kp.1, (hg.block b2 h.s2 fun e => (hr b2 e.symm).2.2 rfl).trans h.kp.2⟩, Nat.lt_of_lt_of_le h.s1 hg.size, Nat.lt_of_lt_of_le h.s2 hg.size⟩
theorem size_sltB : (Tryd.prog.info? 67).map (·.size) = some 1 := by kernel_rfl
theorem leaveB {n : Nat} {P : Program} {fn : Func} {R : Ending → World → Prop} {a : Act} {W : World} {D : Nat} {v : Value} (hd : a.defers = [{ target := .collected D, args := #[] }]) (hh : W.heap[D]? = some (.deferred (some [])))
    (hres : (results fn a.tmps).run P (W.putObj D (.deferred none)) = .ok v (W.putObj D (.deferred none))) (hR : R (.returned v) (W.putObj D (.deferred none))) : bodyPostM Fence.wide n P fn R .ret a W := by
  show LeavesInM Fence.wide n P fn a.tmps R a.defers .returning W
  rw [hd]
  exact ⟨by simp, .inl ⟨D, _, rfl, run_takeDeferred hh, ⟨v, hres, hR⟩⟩⟩
theorem below_putB {w W : World} {D : Nat} (x : Obj) (h : Below w.heap.size w W) (hD : w.heap.size ≤ D) (hlt : D < W.heap.size) : Below w.heap.size w (W.putObj D x) :=
  h.grown (grownBy_putObj' W D x) h.size (fun k e => by cases e; exact hD)
/-- what the range yields at its k-th round -/
def encB (px py : Nat → Int) (n k : Nat) : Array Value := #[.int .i64 ((n : Int) - 1 - k), .agg #[.int .i8 (px (n - 1 - k)), .int .i8 (py (n - 1 - k))]]
def bkV (px py : Nat → Int) (n : Nat) (l : List Nat) : List Value := l.flatMap fun k => [.int .i8 (px (n - 1 - k)), .int .i8 (py (n - 1 - k))]
theorem bkV_range (px py : Nat → Int) (n : Nat) : bkV px py n (List.range n) = revV px py n n := rfl
theorem bkV_snoc (px py : Nat → Int) (n : Nat) (l : List Nat) (k : Nat) : bkV px py n (l ++ [k]) = bkV px py n l ++ [.int .i8 (px (n - 1 - k)), .int .i8 (py (n - 1 - k))] := by unfold bkV; simp
attribute [local go_sem] Oper.semAt_some
end Go.Proofs.YtmcpaangofdmpaaDoor
