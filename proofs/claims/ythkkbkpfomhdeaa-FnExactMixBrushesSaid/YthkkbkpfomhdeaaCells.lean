import Derived.Test.YthkkbkpfomhdeaaR
import Derived.Shelf.Abstract
namespace Go.Proofs.Ythkkbkpfomhdeaa
open Go.RowKit
set_option maxRecDepth 100000
set_option linter.unusedVariables false
attribute [local go_sem] Oper.semAt_some
/-- A place of the grid. -/
abbrev Sp8 := { p : Nat × Nat // p.1 < 8 ∧ p.2 < 8 }
def mk8 (x y : Nat) : Sp8 := if h : x < 8 ∧ y < 8 then ⟨(x, y), h⟩ else ⟨(0, 0), by decide⟩
theorem mk8_x {x y : Nat} (hx : x < 8) (hy : y < 8) : (mk8 x y).1 = (x, y) := by unfold mk8; rw [dif_pos ⟨hx, hy⟩]
def rowOf (a y : Nat) : List Sp8 := (List.range a).map fun x => mk8 x y
/-- the cells of a columns and c rows, in their order -/
def cellsL (a c : Nat) : List Sp8 := (List.range c).flatMap (rowOf a)
theorem rowOf_succ (a y : Nat) : rowOf (a + 1) y = rowOf a y ++ [mk8 a y] := by simp [rowOf, List.range_succ]
theorem cellsL_succ (a c : Nat) : cellsL a (c + 1) = cellsL a c ++ rowOf a c := by simp [cellsL, List.range_succ]
theorem rowOf_length (a y : Nat) : (rowOf a y).length = a := by simp [rowOf]
theorem cellsL_length (a c : Nat) : (cellsL a c).length = a * c := by
  induction c with
  | zero => simp [cellsL]
  | succ c ih => rw [cellsL_succ, List.length_append, ih, rowOf_length, Nat.mul_succ]
def encS (p : Sp8) : Array Value := #[.agg #[.int .i8 p.1.1, .int .i8 p.1.2]]
/-- Two blocks lie as they lay. -/
def Kp2 (b1 b2 : Nat) (A B : World) : Prop := B.heap[b1]? = A.heap[b1]? ∧ B.heap[b2]? = A.heap[b2]?
theorem Kp2.t {b1 b2 : Nat} {A B C : World} (h : Kp2 b1 b2 A B) (k : Kp2 b1 b2 B C) : Kp2 b1 b2 A C := ⟨k.1.trans h.1, k.2.trans h.2⟩
theorem Kp2.b {b1 b2 : Nat} {w : World} (h1 : b1 < w.heap.size) (h2 : b2 < w.heap.size) (W : World) (l : Nat) (o o' : Obj) (hl : w.heap.size ≤ l) (_ : W.heap[l]? = some o) (_ : o.isCells = false) (_ : o.isWalk = false) : Kp2 b1 b2 W (W.putObj l o') :=
  ⟨World.putObj_heap_other (by omega), World.putObj_heap_other (by omega)⟩
theorem Kp2.of_below {b1 b2 n : Nat} {A B : World} (h : Below n A B) (h1 : b1 < n) (h2 : b2 < n) : Kp2 b1 b2 A B := ⟨h.block _ h1, h.block _ h2⟩
theorem keeps_below {B : Nat} {W W' : World} (h : Below W.heap.size W W') : KeepsFrom B W W' := ⟨h.size, fun k o _ hk _ => (h.block k (row_lt hk)).trans hk⟩
theorem keeps_setRow {B b : Nat} {W : World} {cs' : Array Value} {t : TypeId} (h : W.heap[b]? = some (.cells cs' t)) (cs : Array Value) : KeepsFrom B W (W.setRow b cs) := by
  refine ⟨by simp, fun k o _ hk ho => ?_⟩
  by_cases e : k = b
  · subst e; rw [h] at hk; cases hk; simp [Obj.isCells] at ho
  · exact (setRow_other W b k cs (by omega)).trans hk
theorem own_row {β : Type} {B b : Nat} {o : Obj} (hb : b < B) : OwnFrom B (fun (_ : β) W => W.heap[b]? = some o) := fun _ W W' row hs hg hr =>
  (hg.block b (row_lt hs) (fun e => by have := (hr b e.symm).1; omega)).trans hs
theorem own_pure {β : Type} {B : Nat} (p : β → Prop) : OwnFrom B (fun (s : β) (_ : World) => p s) := fun _ _ _ _ hs _ _ => hs
theorem Kp2.of_lt {b1 b2 : Nat} {A B : World} (h : Below A.heap.size A B) (h1 : b1 < A.heap.size) (h2 : b2 < A.heap.size) : Kp2 b1 b2 A B := Kp2.of_below h h1 h2
theorem Kp2.setRow {b1 b2 g : Nat} {A B : World} (h : Kp2 b1 b2 A B) (h1 : b1 ≠ g) (h2 : b2 ≠ g) (cs : Array Value) : Kp2 b1 b2 A (B.setRow g cs) :=
  ⟨(setRow_other B g b1 cs h1).trans h.1, (setRow_other B g b2 cs h2).trans h.2⟩
/-- A STORE of m cells, run. -/
theorem run_storemid {P : Program} {o : Oper} {a : Act} {w : World} (ty : TypeId) (x y : Operand) (ho : o.op = .store ty x y)
    (b off : Nat) (hx : a.eval x = .pointer (some ⟨b, off, none⟩)) (n m : Nat) (f g : Nat → Value) (hy : a.eval y = .agg (vrow m g)) (t : TypeId) (hi : (P.info? ty).map (·.size) = some m)
    (hg : w.heap[b]? = some (.cells (vrow n f) t)) (hb : off + m ≤ n) (h1 : ∀ i, i < m → (g i).oneCell' = true) : (execOp a.eval o).run P w = .ok .skip (w.setRow b (vrow n (over f off m g))) := by
  have hs := run_storeCells_at (P := P) b off t (vrow m g).toList 0 (vrow n f) w hg (by simp [vrow_size]; omega) (fun v hv => by
    simp [vrow] at hv; obtain ⟨i, hi, rfl⟩ := hv; exact h1 i hi)
  have hm : (vrow m g).toList.length = m := by simp [vrow_size]
  rw [hm, Nat.add_zero, vrow_mid n off m f g hb] at hs
  have hrun : (storeVar ty ⟨b, off, none⟩ (.agg (vrow m g))).run P w = .ok () (w.setRow b (vrow n (over f off m g))) := by
    cases hq : P.info? ty with
    | none => simp [hq] at hi
    | some i =>
      have hs' : (vrow m g).size = i.size := by simp [hq] at hi; rw [vrow_size]; omega
      simp [storeVar, sizeOf, typeInfo, hq, Value.cells, hs', hs]
  unfold execOp
  simp only [ho, hx, hy, Instr.storeAt, Instr.sureAddr, Sem.run_bind, Sem.run_pure, Result.andThen_ok, hrun]
theorem run_store1 {P : Program} {o : Oper} {a : Act} {w : World} (ty : TypeId) (x y : Operand) (ho : o.op = .store ty x y)
    (b off : Nat) (hx : a.eval x = .pointer (some ⟨b, off, none⟩)) (n : Nat) (f : Nat → Value) (v : Value) (hy : a.eval y = v) (t : TypeId) (hi : (P.info? ty).map (·.size) = some 1)
    (hg : w.heap[b]? = some (.cells (vrow n f) t)) (hb : off < n) (h1 : v.oneCell' = true) : (execOp a.eval o).run P w = .ok .skip (w.setRow b (vrow n (over f off 1 fun _ => v))) := by
  have hcs : v.cells = #[v] := by cases v <;> first | rfl | cases h1
  have hs := run_storeCells_at (P := P) b off t [v] 0 (vrow n f) w hg (by simp [vrow_size]; omega) (fun u hu => by simp at hu; rw [hu]; exact h1)
  have hm := vrow_mid n off 1 f (fun _ => v) (by omega)
  rw [show (vrow 1 fun _ => v).toList = [v] from rfl] at hm
  simp only [List.length_singleton, Nat.add_zero, hm] at hs
  have hrun : (storeVar ty ⟨b, off, none⟩ v).run P w = .ok () (w.setRow b (vrow n (over f off 1 fun _ => v))) := by
    cases hq : P.info? ty with
    | none => simp [hq] at hi
    | some i =>
      have hs' : i.size = 1 := by simpa [hq] using hi
      simp [storeVar, sizeOf, typeInfo, hq, hcs, hs', hs]
  unfold execOp
  simp only [ho, hx, hy, Instr.storeAt, Instr.sureAddr, Sem.run_bind, Sem.run_pure, Result.andThen_ok, hrun]
theorem wpListIn_skipped {r n : Nat} {P : Program} {ops : Array Oper} {Q : Exit → Act → World → Prop} {rest : List Oper} {o : Oper} {a : Act} {w w' : World} (hgd : o.guard = none) (hd : ∀ c, o.op ≠ .defer c)
    (hrun : (execOp a.eval o).run P w = .ok .skip w') (h : wpListIn (Fence.wide.inRound r) n P ops Q rest (a.put o.dst undef) w') : wpListIn (Fence.wide.inRound r) n P ops Q (o :: rest) a w := by
  refine wpListIn_plain hgd fun K hK => ⟨fun _ _ => trivial, ?_⟩
  show o.uponIn _ n P a K Q ((o.semAt (some r) a.eval).run P w)
  rw [Oper.semAt_eq _ _ _ hd, hrun]
  exact hK _ _ h
/-- STORE of a whole row, in a round. -/
theorem wpListIn_storeall {r n' : Nat} {P : Program} {ops : Array Oper} {rest : List Oper} {o : Oper} {a : Act} {w : World} {Q : Exit → Act → World → Prop} (hgd : o.guard = none) (ty : TypeId) (x y : Operand) (ho : o.op = .store ty x y)
    (b : Nat) (hx : a.eval x = .pointer (some ⟨b, 0, none⟩)) (n : Nat) (f g : Nat → Value) (hy : a.eval y = .agg (vrow n g)) (t : TypeId) (hi : (P.info? ty).map (·.size) = some n)
    (hg : w.heap[b]? = some (.cells (vrow n f) t)) (h1 : ∀ i, i < n → (g i).oneCell' = true)
    (h : wpListIn (Fence.wide.inRound r) n' P ops Q rest (a.put o.dst undef) (w.setRow b (vrow n g))) : wpListIn (Fence.wide.inRound r) n' P ops Q (o :: rest) a w :=
  wpListIn_skipped hgd (fun c hc => by rw [ho] at hc; cases hc) (run_storemid ty x y ho b 0 hx n n f g hy t hi hg (by omega) h1) (by rw [vrow_over_all]; exact h)
/-- STORE of one cell, in a round. -/
theorem wpListIn_store1 {r n' : Nat} {P : Program} {ops : Array Oper} {rest : List Oper} {o : Oper} {a : Act} {w : World} {Q : Exit → Act → World → Prop} (hgd : o.guard = none) (ty : TypeId) (x y : Operand) (ho : o.op = .store ty x y)
    (b off : Nat) (hx : a.eval x = .pointer (some ⟨b, off, none⟩)) (n : Nat) (f : Nat → Value) (v : Value) (hy : a.eval y = v) (t : TypeId) (hi : (P.info? ty).map (·.size) = some 1)
    (hg : w.heap[b]? = some (.cells (vrow n f) t)) (hb : off < n) (h1 : v.oneCell' = true)
    (h : wpListIn (Fence.wide.inRound r) n' P ops Q rest (a.put o.dst undef) (w.setRow b (vrow n (over f off 1 fun _ => v)))) : wpListIn (Fence.wide.inRound r) n' P ops Q (o :: rest) a w :=
  wpListIn_skipped hgd (fun c hc => by rw [ho] at hc; cases hc) (run_store1 ty x y ho b off hx n f v hy t hi hg hb h1) h
end Go.Proofs.Ythkkbkpfomhdeaa
