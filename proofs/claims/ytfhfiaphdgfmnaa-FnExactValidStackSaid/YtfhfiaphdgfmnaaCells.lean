import Derived.Test.YtfhfiaphdgfmnaaR
import Derived.Shelf.Abstract
namespace Go.Proofs.Ytfhfiaphdgfmnaa
open Go.RowKit
set_option maxRecDepth 100000
set_option linter.unusedVariables false
attribute [local go_sem] Oper.semAt_some
/-- A place of the grid. -/
abbrev Sp8 := { p : Nat × Nat // p.1 < 8 ∧ p.2 < 8 }
def mk8 (x y : Nat) : Sp8 := if h : x < 8 ∧ y < 8 then ⟨(x, y), h⟩ else ⟨(0, 0), by decide⟩
theorem mk8_x {x y : Nat} (hx : x < 8) (hy : y < 8) : (mk8 x y).1 = (x, y) := by unfold mk8; rw [dif_pos ⟨hx, hy⟩]
def rowOf (a y : Nat) : List Sp8 := (List.range a).map fun x => mk8 x y
/-- the cells of a columns and c rows, in their order -/
def cellsL (a c : Nat) : List Sp8 := (List.range c).flatMap (rowOf a)
theorem rowOf_succ (a y : Nat) : rowOf (a + 1) y = rowOf a y ++ [mk8 a y] := by simp [rowOf, List.range_succ]
theorem cellsL_succ (a c : Nat) : cellsL a (c + 1) = cellsL a c ++ rowOf a c := by simp [cellsL, List.range_succ]
theorem rowOf_length (a y : Nat) : (rowOf a y).length = a := by simp [rowOf]
theorem cellsL_length (a c : Nat) : (cellsL a c).length = a * c := by
  induction c with
  | zero => simp [cellsL]
  | succ c ih => rw [cellsL_succ, List.length_append, ih, rowOf_length, Nat.mul_succ]
def encS (p : Sp8) : Array Value := #[.agg #[.int .i8 p.1.1, .int .i8 p.1.2]]
/-- Two blocks lie as they lay. -/
def Kp2 (b1 b2 : Nat) (A B : World) : Prop := B.heap[b1]? = A.heap[b1]? ∧ B.heap[b2]? = A.heap[b2]?
theorem Kp2.t {b1 b2 : Nat} {A B C : World} (h : Kp2 b1 b2 A B) (k : Kp2 b1 b2 B C) : Kp2 b1 b2 A C := ⟨k.1.trans h.1, k.2.trans h.2⟩
theorem Kp2.b {b1 b2 : Nat} {w : World} (h1 : b1 < w.heap.size) (h2 : b2 < w.heap.size) (W : World) (l : Nat) (o o' : Obj) (hl : w.heap.size ≤ l) (_ : W.heap[l]? = some o) (_ : o.isCells = false) (_ : o.isWalk = false) : Kp2 b1 b2 W (W.putObj l o') :=
  ⟨World.putObj_heap_other (by omega), World.putObj_heap_other (by omega)⟩
theorem Kp2.of_below {b1 b2 n : Nat} {A B : World} (h : Below n A B) (h1 : b1 < n) (h2 : b2 < n) : Kp2 b1 b2 A B := ⟨h.block _ h1, h.block _ h2⟩
theorem cells_any (a c : Int) (w : World) : Calls Try.prog 43 #[.int .i8 a, .int .i8 c] w fun e w' => e = .returned (.func (.func 46) #[] #[.pointer (some ⟨w.heap.size + 1, 0, none⟩), .pointer (some ⟨w.heap.size, 0, none⟩)]) ∧ w' = (w.alloc (.cells #[.int .i8 a] 31)).alloc (.cells #[.int .i8 c] 31) := by
  go_enter Try.func43, Try.ntmps43
  go_wp2
  go_ret
  exact ⟨rfl, rfl⟩
set_option maxRecDepth 100000 in
set_option maxHeartbeats 1000000 in
theorem cells1_in (F : Fence) (n : Nat) (hF : F.fn 46) (hro : F.round = none) (hn : 1 ≤ n) (l b1 b2 a c : Nat) (ha : a ≤ 8) (hc : c ≤ 8) (J Jx : List Sp8 → World → Prop)
    (hY : ∀ pre x W, J pre W → pre.length < a * c → YieldAt F (n - 1) Try.prog l (encS x) W fun e W' =>
      (e = .returned (.bool true) ∧ J (pre ++ [x]) W' ∧ Kp2 b1 b2 W W') ∨ (e = .returned (.bool false) ∧ Jx (pre ++ [x]) W'))
    (W : World) (h1 : W.heap[b1]? = some (.cells #[.int .i8 c] 31)) (h2 : W.heap[b2]? = some (.cells #[.int .i8 a] 31)) (h0 : J [] W) :
    CallsIn F n Try.prog 46 #[.func (.yield l) #[] #[], .pointer (some ⟨b1, 0, none⟩), .pointer (some ⟨b2, 0, none⟩)] W fun e W' => (∃ v, e = .returned v) ∧
      ((∃ ys, ys = cellsL a c ∧ J ys W') ∨ (∃ pre, True ∧ Jx pre W')) := by
  refine callsIn_of_wp Try.func46 rfl hF ?_ hro
  simp only [Try.ntmps46, List.size_toArray, List.length_cons, List.length_nil, Nat.reduceAdd, Nat.reduceSub, Array.replicate_succ, Array.replicate_zero, List.push_toArray, List.append_toArray, List.nil_append, List.cons_append]
  have c1 := cell_of_row W b1 0 _ _ (0, 0) h1
  have c2 := cell_of_row W b2 0 _ _ (0, 0) h2
  simp at c1 c2
  have H1 := Go.Lib.hid h1; have H2 := Go.Lib.hid h2; clear h1 h2
  gi_wp2
  gi_loopw [7] (fun yv wr => ∃ k : Nat, k ≤ c ∧ yv = .int .i8 k ∧ J (cellsL a k) wr ∧ wr.heap[b1]? = some (.cells #[.int .i8 c] 31) ∧ wr.heap[b2]? = some (.cells #[.int .i8 a] 31)) (fun yv _ => c - (intOf yv).toNat)
  case atStart => exact ⟨0, by omega, rfl, h0, H1.out, H2.out⟩
  case round =>
    clear c1 c2 H1 H2 h0
    obtain ⟨k, hk, rfl, hJ, h1, h2⟩ := hrel
    have c2 := cell_of_row wr b2 0 _ _ (0, 0) h2
    simp at c2
    have H1 := Go.Lib.hid h1; have H2 := Go.Lib.hid h2; clear h1 h2
    by_cases hlt : k < c
    · have hdk : decide ((k : Int) < c) = true := by simp; omega
      gi_wp2
      obtain ⟨wo, hwo⟩ : ∃ wo : World, wo = wr := ⟨_, rfl⟩
      rw [← hwo] at hJ c2 H1 H2 ⊢
      clear hwo wr
      gi_loopw [11] (fun xv wr => ∃ j : Nat, j ≤ a ∧ xv = .int .i8 j ∧ J (cellsL a k ++ rowOf j k) wr ∧ wr.heap[b1]? = some (.cells #[.int .i8 c] 31) ∧ wr.heap[b2]? = some (.cells #[.int .i8 a] 31)) (fun xv _ => a - (intOf xv).toNat)
      case atStart => exact ⟨0, by omega, rfl, by simpa [rowOf] using hJ, H1.out, H2.out⟩
      case round =>
        clear c2 H1 H2 hJ
        obtain ⟨j, hj, rfl, hJ, h1, h2⟩ := hrel
        have H1 := Go.Lib.hid h1; have H2 := Go.Lib.hid h2; clear h1 h2
        by_cases hlj : j < a
        · have hjk : a * (k + 1) ≤ a * c := Nat.mul_le_mul_left a (by omega)
          have hlen : (cellsL a k ++ rowOf j k).length < a * c := by
            rw [List.length_append, cellsL_length, rowOf_length]; rw [Nat.mul_succ] at hjk; omega
          obtain ⟨fn, tmps, assign, body, hy, hR⟩ := hY _ (mk8 j k) wr hJ hlen
          simp only [encS, mk8_x (show j < 8 by omega) (show k < 8 by omega)] at hy
          have hs := rowOf_succ j k
          have HS := Go.Lib.hid hs
          clear hjk hlen hs
          gi_wp2
          refine hR.mono ?_
          rintro e W3 (⟨rfl, hJ3, hk3⟩ | ⟨rfl, hJx3⟩)
          · have H1' := Go.Lib.hid (hk3.1.trans H1.out); have H2' := Go.Lib.hid (hk3.2.trans H2.out)
            clear hk3 H1 H2
            gi_wp2
            go_roundw
            case rel => exact ⟨j + 1, by omega, by go_num, by rw [HS.out, ← List.append_assoc]; exact hJ3, H1'.out, H2'.out⟩
            case measure => simp [intOf]; omega
          · gi_wp2
            refine bodyPost_ret (results_none rfl _ _ _) rfl ?_
            exact ⟨⟨_, rfl⟩, .inr ⟨_, trivial, hJx3⟩⟩
        · obtain rfl : j = a := by omega
          gi_wp2
          go_roundw
          case rel => exact ⟨k + 1, by omega, by go_num, by rw [cellsL_succ]; exact hJ, H1.out, H2.out⟩
          case measure => simp [intOf]; omega
    · obtain rfl : k = c := by omega
      gi_wp2
      go_end0
      exact ⟨⟨_, rfl⟩, .inl ⟨_, rfl, hJ⟩⟩
theorem cells_seq (n : Nat) (hn : 1 ≤ n) (b1 b2 a c : Nat) (ha : a ≤ 8) (hc : c ≤ 8) (w : World) (h1 : w.heap[b1]? = some (.cells #[.int .i8 c] 31)) (h2 : w.heap[b2]? = some (.cells #[.int .i8 a] 31)) :
    SeqStopsK Fence.wide n Try.prog 46 #[.pointer (some ⟨b1, 0, none⟩), .pointer (some ⟨b2, 0, none⟩)] encS (Kp2 b1 b2) (fun ys => ys = cellsL a c) (fun _ => True) (a * c) w := fun l J Jx W hW _ _ hY h0 =>
  cells1_in Fence.wide n trivial rfl hn l b1 b2 a c ha hc J Jx hY W ((hW.block _ (row_lt h1)).trans h1) ((hW.block _ (row_lt h2)).trans h2) h0
theorem keeps_below {B : Nat} {W W' : World} (h : Below W.heap.size W W') : KeepsFrom B W W' := ⟨h.size, fun k o _ hk _ => (h.block k (row_lt hk)).trans hk⟩
theorem keeps_setRow {B b : Nat} {W : World} {cs' : Array Value} {t : TypeId} (h : W.heap[b]? = some (.cells cs' t)) (cs : Array Value) : KeepsFrom B W (W.setRow b cs) := by
  refine ⟨by simp, fun k o _ hk ho => ?_⟩
  by_cases e : k = b
  · subst e; rw [h] at hk; cases hk; simp [Obj.isCells] at ho
  · exact (setRow_other W b k cs (by omega)).trans hk
theorem own_row {β : Type} {B b : Nat} {o : Obj} (hb : b < B) : OwnFrom B (fun (_ : β) W => W.heap[b]? = some o) := fun _ W W' row hs hg hr =>
  (hg.block b (row_lt hs) (fun e => by have := (hr b e.symm).1; omega)).trans hs
theorem own_pure {β : Type} {B : Nat} (p : β → Prop) : OwnFrom B (fun (s : β) (_ : World) => p s) := fun _ _ _ _ hs _ _ => hs
theorem Kp2.of_lt {b1 b2 : Nat} {A B : World} (h : Below A.heap.size A B) (h1 : b1 < A.heap.size) (h2 : b2 < A.heap.size) : Kp2 b1 b2 A B := Kp2.of_below h h1 h2
theorem Kp2.setRow {b1 b2 g : Nat} {A B : World} (h : Kp2 b1 b2 A B) (h1 : b1 ≠ g) (h2 : b2 ≠ g) (cs : Array Value) : Kp2 b1 b2 A (B.setRow g cs) :=
  ⟨(setRow_other B g b1 cs h1).trans h.1, (setRow_other B g b2 cs h2).trans h.2⟩
/-- A STORE of m cells, run. -/
theorem run_storemid {P : Program} {o : Oper} {a : Act} {w : World} (ty : TypeId) (x y : Operand) (ho : o.op = .store ty x y)
    (b off : Nat) (hx : a.eval x = .pointer (some ⟨b, off, none⟩)) (n m : Nat) (f g : Nat → Value) (hy : a.eval y = .agg (vrow m g)) (t : TypeId) (hi : (P.info? ty).map (·.size) = some m)
    (hg : w.heap[b]? = some (.cells (vrow n f) t)) (hb : off + m ≤ n) (h1 : ∀ i, i < m → (g i).oneCell' = true) : (execOp a.eval o).run P w = .ok .skip (w.setRow b (vrow n (over f off m g))) := by
  have hs := run_storeCells_at (P := P) b off t (vrow m g).toList 0 (vrow n f) w hg (by simp [vrow_size]; omega) (fun v hv => by
    simp [vrow] at hv; obtain ⟨i, hi, rfl⟩ := hv; exact h1 i hi)
  have hm : (vrow m g).toList.length = m := by simp [vrow_size]
  rw [hm, Nat.add_zero, vrow_mid n off m f g hb] at hs
  have hrun : (storeVar ty ⟨b, off, none⟩ (.agg (vrow m g))).run P w = .ok () (w.setRow b (vrow n (over f off m g))) := by
    cases hq : P.info? ty with
    | none => simp [hq] at hi
    | some i =>
      have hs' : (vrow m g).size = i.size := by simp [hq] at hi; rw [vrow_size]; omega
      simp [storeVar, sizeOf, typeInfo, hq, Value.cells, hs', hs]
  unfold execOp
  simp only [ho, hx, hy, Instr.storeAt, Instr.sureAddr, Sem.run_bind, Sem.run_pure, Result.andThen_ok, hrun]
theorem run_store1 {P : Program} {o : Oper} {a : Act} {w : World} (ty : TypeId) (x y : Operand) (ho : o.op = .store ty x y)
    (b off : Nat) (hx : a.eval x = .pointer (some ⟨b, off, none⟩)) (n : Nat) (f : Nat → Value) (v : Value) (hy : a.eval y = v) (t : TypeId) (hi : (P.info? ty).map (·.size) = some 1)
    (hg : w.heap[b]? = some (.cells (vrow n f) t)) (hb : off < n) (h1 : v.oneCell' = true) : (execOp a.eval o).run P w = .ok .skip (w.setRow b (vrow n (over f off 1 fun _ => v))) := by
  have hcs : v.cells = #[v] := by cases v <;> first | rfl | cases h1
  have hs := run_storeCells_at (P := P) b off t [v] 0 (vrow n f) w hg (by simp [vrow_size]; omega) (fun u hu => by simp at hu; rw [hu]; exact h1)
  have hm := vrow_mid n off 1 f (fun _ => v) (by omega)
  rw [show (vrow 1 fun _ => v).toList = [v] from rfl] at hm
  simp only [List.length_singleton, Nat.add_zero, hm] at hs
  have hrun : (storeVar ty ⟨b, off, none⟩ v).run P w = .ok () (w.setRow b (vrow n (over f off 1 fun _ => v))) := by
    cases hq : P.info? ty with
    | none => simp [hq] at hi
    | some i =>
      have hs' : i.size = 1 := by simpa [hq] using hi
      simp [storeVar, sizeOf, typeInfo, hq, hcs, hs', hs]
  unfold execOp
  simp only [ho, hx, hy, Instr.storeAt, Instr.sureAddr, Sem.run_bind, Sem.run_pure, Result.andThen_ok, hrun]
theorem wpListIn_skipped {r n : Nat} {P : Program} {ops : Array Oper} {Q : Exit → Act → World → Prop} {rest : List Oper} {o : Oper} {a : Act} {w w' : World} (hgd : o.guard = none) (hd : ∀ c, o.op ≠ .defer c)
    (hrun : (execOp a.eval o).run P w = .ok .skip w') (h : wpListIn (Fence.wide.inRound r) n P ops Q rest (a.put o.dst undef) w') : wpListIn (Fence.wide.inRound r) n P ops Q (o :: rest) a w := by
  refine wpListIn_plain hgd fun K hK => ⟨fun _ _ => trivial, ?_⟩
  show o.uponIn _ n P a K Q ((o.semAt (some r) a.eval).run P w)
  rw [Oper.semAt_eq _ _ _ hd, hrun]
  exact hK _ _ h
/-- STORE of a whole row, in a round. -/
theorem wpListIn_storeall {r n' : Nat} {P : Program} {ops : Array Oper} {rest : List Oper} {o : Oper} {a : Act} {w : World} {Q : Exit → Act → World → Prop} (hgd : o.guard = none) (ty : TypeId) (x y : Operand) (ho : o.op = .store ty x y)
    (b : Nat) (hx : a.eval x = .pointer (some ⟨b, 0, none⟩)) (n : Nat) (f g : Nat → Value) (hy : a.eval y = .agg (vrow n g)) (t : TypeId) (hi : (P.info? ty).map (·.size) = some n)
    (hg : w.heap[b]? = some (.cells (vrow n f) t)) (h1 : ∀ i, i < n → (g i).oneCell' = true)
    (h : wpListIn (Fence.wide.inRound r) n' P ops Q rest (a.put o.dst undef) (w.setRow b (vrow n g))) : wpListIn (Fence.wide.inRound r) n' P ops Q (o :: rest) a w :=
  wpListIn_skipped hgd (fun c hc => by rw [ho] at hc; cases hc) (run_storemid ty x y ho b 0 hx n n f g hy t hi hg (by omega) h1) (by rw [vrow_over_all]; exact h)
/-- STORE of one cell, in a round. -/
theorem wpListIn_store1 {r n' : Nat} {P : Program} {ops : Array Oper} {rest : List Oper} {o : Oper} {a : Act} {w : World} {Q : Exit → Act → World → Prop} (hgd : o.guard = none) (ty : TypeId) (x y : Operand) (ho : o.op = .store ty x y)
    (b off : Nat) (hx : a.eval x = .pointer (some ⟨b, off, none⟩)) (n : Nat) (f : Nat → Value) (v : Value) (hy : a.eval y = v) (t : TypeId) (hi : (P.info? ty).map (·.size) = some 1)
    (hg : w.heap[b]? = some (.cells (vrow n f) t)) (hb : off < n) (h1 : v.oneCell' = true)
    (h : wpListIn (Fence.wide.inRound r) n' P ops Q rest (a.put o.dst undef) (w.setRow b (vrow n (over f off 1 fun _ => v)))) : wpListIn (Fence.wide.inRound r) n' P ops Q (o :: rest) a w :=
  wpListIn_skipped hgd (fun c hc => by rw [ho] at hc; cases hc) (run_store1 ty x y ho b off hx n f v hy t hi hg hb h1) h
/-- A RANGE OVER cells(..), its variable boxed. -/
theorem wp_cells {g : Operand} {p d : Tmp} {assign body : Code} {Q : Exit → Act → World → Prop} {a : Act} {w : World} (b1 b2 aa cc : Nat) (haa : aa ≤ 8) (hcc : cc ≤ 8)
    (hg : a.eval g = .func (.func 46) #[] #[.pointer (some ⟨b1, 0, none⟩), .pointer (some ⟨b2, 0, none⟩)])
    (h1 : w.heap[b1]? = some (.cells #[.int .i8 cc] 31)) (h2 : w.heap[b2]? = some (.cells #[.int .i8 aa] 31))
    (I : List Sp8 → World → Prop) (Ix : Code → List Sp8 → World → Prop) (hI : OwnFrom w.heap.size I) (hIx : ∀ c, OwnFrom w.heap.size (Ix c)) (h0 : I [] w)
    (hassign : ∀ (l : Nat) (x : Sp8) (W : World) (K : Act → World → Prop), K { tmps := (a.tmps.setIfInBounds p (.agg #[.int .i8 x.1.1, .int .i8 x.1.2])).setIfInBounds d (.pointer (some ⟨W.heap.size, 0, none⟩)), defers := [] } (W.alloc (.cells (vrow 2 (spAt x.1.1 x.1.2)) 57)) →
      assign.wpIn (Fence.wide.inRound l) 7 Try.prog (Exit.then K (fun _ _ _ => False)) { tmps := a.tmps.setIfInBounds p (.agg #[.int .i8 x.1.1, .int .i8 x.1.2]), defers := [] } W)
    (hbody : ∀ (l : Nat) (pre : List Sp8) (x : Sp8) (Wb W : World) (Bx : Nat), Below Wb.heap.size Wb W → w.heap.size ≤ Bx → W.heap[Bx]? = some (.cells (vrow 2 (spAt x.1.1 x.1.2)) 57) → w.heap.size ≤ Wb.heap.size → I pre W → pre.length < aa * cc →
      body.wpIn (Fence.wide.inRound l) 7 Try.prog (ownPostG w.heap.size (Kp2 b1 b2) I Ix (pre ++ [x]) Wb) { tmps := (a.tmps.setIfInBounds p (.agg #[.int .i8 x.1.1, .int .i8 x.1.2])).setIfInBounds d (.pointer (some ⟨Bx, 0, none⟩)), defers := [] } W)
    (hdone : ∀ (D : Nat) (W : World), w.heap.size ≤ D → I (cellsL aa cc) W → W.heap[D]? = some (.deferred (some [])) → Q .normal { a with defers := { target := .collected D, args := #[] } :: a.defers } W)
    (hstop : ∀ (D : Nat) (c : Code) (pre : List Sp8) (W : World), w.heap.size ≤ D → Ix c pre W → W.heap[D]? = some (.deferred (some [])) → c.wp Try.prog Q { a with defers := { target := .collected D, args := #[] } :: a.defers } W) :
    (Code.rangeFunc g #[p] assign body).wp Try.prog Q a w := by
  have hb1 := row_lt h1
  have hb2 := row_lt h2
  refine (wpIn_wide (n := 9)).1 ?_
  refine wpIn_rangeFunc_ownH (F := Fence.wide) (n := 9) rfl (by omega) (gf := 46) (lb := #[.pointer (some ⟨b1, 0, none⟩), .pointer (some ⟨b2, 0, none⟩)]) hg trivial (Go.Proofs.enters_of Try.func46 (by kernel_rfl) rfl)
    (cells_seq 8 (by omega) b1 b2 aa cc haa hcc w h1 h2) Kp2.t (Kp2.b hb1 hb2) (Below.refl _ _) (fun _ => rfl)
    (fun pre W => I pre W ∧ w.heap.size ≤ W.heap.size) Ix (fun s X Y row hs hg hr => ⟨hI s X Y row hs.1 hg hr, Nat.le_trans hs.2 hg.size⟩) hIx ⟨h0, Nat.le_refl _⟩
    (fun x a' W => ∃ Bx, w.heap.size ≤ Bx ∧ W.heap[Bx]? = some (.cells (vrow 2 (spAt x.1.1 x.1.2)) 57) ∧ a' = { tmps := (a.tmps.setIfInBounds p (.agg #[.int .i8 x.1.1, .int .i8 x.1.2])).setIfInBounds d (.pointer (some ⟨Bx, 0, none⟩)), defers := [] })
    (fun x a' _ X Y row hs hg hr => by
      obtain ⟨Bx, e1, e2, e3⟩ := hs
      refine ⟨Bx, e1, ?_, e3⟩
      refine (hg.block Bx (row_lt e2) fun e => ?_).trans e2
      obtain ⟨o, ho, hc⟩ := (hr Bx e.symm).2
      rw [e2] at ho; cases ho; simp [Obj.isCells] at hc)
    ?_ ?_ ?_ ?_
  · rintro l pre x W K ⟨hi, hsz⟩ hK
    have hk := Below.heap_alloc W (.cells (vrow 2 (spAt x.1.1 x.1.2)) 57)
    have e : (#[p].zip (encS x)).foldl (fun t (q, v) => t.setIfInBounds q v) a.tmps = a.tmps.setIfInBounds p (.agg #[.int .i8 x.1.1, .int .i8 x.1.2]) := by simp [encS]
    rw [e]
    exact hassign l x W K (hK _ _ ((KeepsOthers.alloc _ _).from _) ⟨hk _ (by omega), hk _ (by omega)⟩ ⟨hI.alloc _ hi, by simp; omega⟩ ⟨W.heap.size, hsz, heap_at _ _ _ rfl, rfl⟩)
  · rintro l pre x a' W hl _ ⟨hi, hsz⟩ ⟨Bx, e1, e2, rfl⟩ hlen
    refine wpIn_mono (hbody l pre x W W Bx (Below.refl _ _) e1 e2 hsz hi hlen) ?_
    intro e a2 W2 hq
    cases e <;> first | exact hq | exact ⟨hq.1, hq.2.1, hq.2.2, Nat.le_trans hsz hq.1.size⟩
  · rintro D xs W hD rfl ⟨hi, _⟩ hd
    exact hdone D W hD hi hd
  · rintro D c pre W hD _ hx hd
    exact (wpIn_wide (n := 9)).2 (hstop D c pre W hD hx hd)
end Go.Proofs.Ytfhfiaphdgfmnaa
