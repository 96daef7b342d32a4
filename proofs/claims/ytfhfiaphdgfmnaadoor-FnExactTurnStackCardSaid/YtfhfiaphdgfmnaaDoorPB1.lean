import Derived.Deep.RegionHeld3
import Derived.Test.YtfhfiaphdgfmnaaDoorG1
import Derived.StillTail
import Derived.StillTailTactics
import Derived.Laws.AppendOwn
import Derived.Laws.Append
import Derived.OwnWalk
import Derived.Deep.AppendLies
import Derived.OwnWalkIn
import Derived.RangeFuncNested
import Derived.RangeFuncLeaves
namespace Go.Proofs.YtfhfiaphdgfmnaaDoor
open Go.RowKit
set_option linter.unusedVariables false
set_option linter.unusedSimpArgs false
theorem info_sp2 : (Tryd.prog.info? 105).map (fun i => (i.zero, i.size, i.bytes)) = some (some (.agg #[.int .i8 0, .int .i8 0]), 2, 2) := by kernel_rfl
/-- the cells of a row of spots -/
def spf (px py : Nat → Int) (i : Nat) : Value := if i % 2 = 0 then .int .i8 (px (i / 2)) else .int .i8 (py (i / 2))
theorem spf_two (px py : Nat → Int) (k : Nat) : vrow 2 (fun j => spf px py (k * 2 + j)) = vrow 2 (spAt (px k) (py k)) := vrow_ext _ _ _ fun i hi => by
  have : i = 0 ∨ i = 1 := by omega
  rcases this with rfl | rfl
  · unfold spf spAt; rw [if_pos (by omega), show (k * 2 + 0) / 2 = k by omega]; rfl
  · unfold spf spAt; rw [if_neg (by omega), show (k * 2 + 1) / 2 = k by omega]; rfl
/-- k spots have been put -/
def spk (px py : Nat → Int) (k : Nat) (i : Nat) : Value := if i < k * 2 then spf px py i else (.int .i8 0)
theorem spk_0 (px py : Nat → Int) (n : Nat) : vrow n (spk px py 0) = vrow n (fun _ => (.int .i8 0)) := vrow_ext _ _ _ fun i _ => by unfold spk; rw [if_neg (by omega)]
theorem spk_n (px py : Nat → Int) (n : Nat) : vrow (n * 2) (spk px py n) = vrow (n * 2) (spf px py) := vrow_ext _ _ _ fun i hi => by unfold spk; rw [if_pos hi]
theorem spk_step (px py : Nat → Int) (n k : Nat) : vrow n (over (spk px py k) (k * 2) 2 (spAt (px k) (py k))) = vrow n (spk px py (k + 1)) := vrow_ext _ _ _ fun i _ => by
  unfold over spk
  by_cases h : k * 2 ≤ i ∧ i < k * 2 + 2
  · rw [if_pos h, if_pos (by omega)]
    have : i = k * 2 ∨ i = k * 2 + 1 := by omega
    rcases this with rfl | rfl
    · unfold spf spAt; rw [if_pos (by omega), if_pos (by omega), show k * 2 / 2 = k by omega]
    · unfold spf spAt; rw [if_neg (by omega), if_neg (by omega), show (k * 2 + 1) / 2 = k by omega]
  · rw [if_neg h]
    by_cases h2 : i < k * 2
    · rw [if_pos h2, if_pos (by omega)]
    · rw [if_neg h2, if_neg (by omega)]
/-- a path that came in lies there -/
def PathC (w : World) (ao : Option Addr) (n : Nat) (px py : Nat → Int) : Prop :=
  0 < n → ∃ b off, ao = some ⟨b, off, none⟩ ∧ b < w.heap.size ∧ ∀ i, i < n → w.cell? ⟨b, off + i * 2, none⟩ = some (.int .i8 (px i)) ∧ w.cell? ⟨b, off + i * 2 + 1, none⟩ = some (.int .i8 (py i))
theorem PathC.next {w w' : World} {ao : Option Addr} {n : Nat} {px py : Nat → Int} (h : PathC w ao n px py) (hb : Below w.heap.size w w') : PathC w' ao n px py := fun hn => by
  obtain ⟨b, off, rfl, hlt, hc⟩ := h hn
  refine ⟨b, off, rfl, Nat.lt_of_lt_of_le hlt hb.size, fun i hi => ?_⟩
  have e : ∀ o, w'.cell? ⟨b, o, none⟩ = w.cell? ⟨b, o, none⟩ := fun o => by unfold World.cell?; rw [show w'.heap[(⟨b, o, none⟩ : Addr).block]? = w.heap[(⟨b, o, none⟩ : Addr).block]? from hb.block b hlt]
  rw [e, e]; exact hc i hi
/-- a row of another block is written -/
theorem PathC.set0 {w : World} {b off g n : Nat} {px py : Nat → Int} (h : PathC w (some ⟨b, off, none⟩) n px py) (hne : b ≠ g) (cs : Array Value) : PathC (w.setRow g cs) (some ⟨b, off, none⟩) n px py := fun hn => by
  obtain ⟨b', off', he, hlt, hc⟩ := h hn
  simp only [Option.some.injEq, Addr.mk.injEq] at he
  obtain ⟨rfl, rfl, _⟩ := he
  refine ⟨b, off, rfl, by simpa using hlt, fun i hi => ?_⟩
  have e : ∀ o, (w.setRow g cs).cell? ⟨b, o, none⟩ = w.cell? ⟨b, o, none⟩ := fun o => by unfold World.cell?; rw [show (w.setRow g cs).heap[(⟨b, o, none⟩ : Addr).block]? = w.heap[(⟨b, o, none⟩ : Addr).block]? from setRow_other w g b cs hne]
  rw [e, e]; exact hc i hi
/-- LOAD of two cells, cell by cell. -/
theorem wpList_loadc {P : Program} {ops : Array Oper} {rest : List Oper} {o : Oper} {a : Act} {w : World} {Q : Exit → Act → World → Prop} (hgd : o.guard = none) (ty : TypeId) (x : Operand) (ho : o.op = .load ty x)
    (b off : Nat) (hx : a.eval x = .pointer (some ⟨b, off, none⟩)) (u v : Value) (d : TypeDesc) (hu : P.underlying ty = some d) (hd : d.isRow = true) (hi : (P.info? ty).map (·.size) = some 2)
    (h0 : w.cell? ⟨b, off, none⟩ = some u) (h1 : w.cell? ⟨b, off + 1, none⟩ = some v)
    (h : wpList P ops Q rest (a.put o.dst (.agg #[u, v])) w) : wpList P ops Q (o :: rest) a w := by
  refine wpList_load_mid hgd ty x ho b off hx [u, v] d (fun j z hj => by
    match j, hj with
    | 0, hj => simp at hj; rw [Nat.add_zero, h0, hj]
    | 1, hj => simp at hj; rw [h1, hj]
    | j + 2, hj => simp at hj) hu hd (by simpa using hi) (by simpa using h)
theorem made2 (n : Nat) : madeCells #[.int .i8 0, .int .i8 0] (n * 2) = vrow (n * 2) fun _ => (.int .i8 0) := by
  apply Array.ext_getElem?
  intro i
  by_cases hi : i < n * 2
  · rw [vrow_get _ _ _ hi]
    have : i % 2 = 0 ∨ i % 2 = 1 := by omega
    rcases this with h | h <;> simp [madeCells, hi, h]
  · rw [vrow_none _ _ _ hi]; exact Array.getElem?_eq_none (by rw [size_madeCells]; omega)
theorem wpList_make2 {P : Program} {ops : Array Oper} {rest : List Oper} {o : Oper} {a : Act} {w : World} {Q : Exit → Act → World → Prop} (hgd : o.guard = none) (l c : Operand) (t : TypeId) (hop : o.op = Op.makeSlice t l c) (e : TypeId)
    (ht : P.underlying t = some (.slice e)) (hinfo : (P.info? e).map (fun i => (i.zero, i.size, i.bytes)) = some (some (.agg #[.int .i8 0, .int .i8 0]), 2, 2)) (n : Nat) (hl : a.eval l = .int .i64 (n : Int)) (hc : a.eval c = .int .i64 (n : Int)) (hn : n ≤ 1048576)
    (h : wpList P ops Q rest (a.put o.dst (.slice (some ⟨w.heap.size, 0, none⟩) n n)) (w.alloc (.cells (vrow (n * 2) fun _ => (.int .i8 0)) e))) : wpList P ops Q (o :: rest) a w := by
  refine wpList_plain hgd fun K hK => ?_
  obtain ⟨i, hi, hzz⟩ := Option.map_eq_some_iff.1 hinfo
  simp only [Prod.mk.injEq] at hzz
  obtain ⟨hz, hs, hb⟩ := hzz
  have hr := run_make (P := P) w t e i (.agg #[.int .i8 0, .int .i8 0]) ht hi hz .i64 .i64 n n (by omega) (Int.le_refl _) (by rw [hb]; omega) (by omega)
  simp only [Int.toNat_natCast, hs, Value.cells] at hr
  rw [made2] at hr
  unfold Oper.wp
  simp [execOp, hop, hl, hc, hr, Result.andThen]
  exact hK _ _ h
end Go.Proofs.YtfhfiaphdgfmnaaDoor
namespace Go.Proofs.YtfhfiaphdgfmnaaDoor
open Go.RowKit
set_option maxRecDepth 100000
set_option linter.unusedVariables false
set_option linter.unusedSimpArgs false
theorem zero_sp2 : ∀ w, (zeroValue 105).run Tryd.prog w = .ok (.agg (vrow 2 (spAt 0 0))) w := fun _ => by kernel_rfl
theorem spAt_one2 (x y : Int) (i : Nat) : (spAt x y i).oneCell' = true := by unfold spAt; split <;> rfl
end Go.Proofs.YtfhfiaphdgfmnaaDoor
namespace Go.Proofs.YtfhfiaphdgfmnaaDoor
open Go.RowKit
set_option maxRecDepth 100000
set_option linter.unusedVariables false
set_option linter.unusedSimpArgs false
theorem drwP {w : World} {b : Nat} {x : Obj} (h : w.heap[b]? = some x) : w.drew.heap[b]? = some x := h
end Go.Proofs.YtfhfiaphdgfmnaaDoor
namespace Go.Proofs.YtfhfiaphdgfmnaaDoor
open Go.RowKit
set_option maxRecDepth 100000
set_option linter.unusedVariables false
set_option linter.unusedSimpArgs false
/-- the first c cells of a row of spots are marked, from k -/
def mkC (f : Nat → Value) (k : Int) (c i : Nat) : Value := if i < c then .int .i8 (IntKind.i8.wrap (k + i)) else f i
theorem mkC_0 (f : Nat → Value) (k : Int) (N : Nat) : vrow N (mkC f k 0) = vrow N f := vrow_ext _ _ _ fun i _ => by unfold mkC; rw [if_neg (by omega)]
theorem mkC_step (f : Nat → Value) (k z : Int) (N c : Nat) (hz : z = k + c) : vrow N (over (mkC f k c) c 1 fun _ => .int .i8 (IntKind.i8.wrap z)) = vrow N (mkC f k (c + 1)) := vrow_ext _ _ _ fun i _ => by
  unfold over mkC
  by_cases h : i = c
  · rw [if_pos (by omega), if_pos (by omega), h, hz]
  · rw [if_neg (by omega)]
    by_cases h2 : i < c
    · rw [if_pos h2, if_pos (by omega)]
    · rw [if_neg h2, if_neg (by omega)]
theorem mkC_at (f : Nat → Value) (k : Int) (c i : Nat) (h : i < c) : mkC f k c i = .int .i8 (IntKind.i8.wrap (k + i)) := by unfold mkC; rw [if_pos h]
theorem setRow_selfK {w : World} {g : Nat} {cs : Array Value} {t : TypeId} (h : w.heap[g]? = some (.cells cs t)) : w.setRow g cs = w := by
  have h' := h
  cases w with
  | mk heap os tape drawn output =>
    simp only [World.setRow] at h ⊢
    congr 1
    apply Array.ext_getElem?
    intro i
    rw [Array.getElem?_modify]
    by_cases hi : g = i
    · subst hi
      rw [if_pos rfl, h]
      rfl
    · rw [if_neg hi]
theorem setRow_twiceK (w : World) (g : Nat) (c1 c2 : Array Value) : (w.setRow g c1).setRow g c2 = w.setRow g c2 := by
  cases w with
  | mk heap os tape drawn output =>
    simp only [World.setRow]
    congr 1
    apply Array.ext_getElem?
    intro i
    rw [Array.getElem?_modify, Array.getElem?_modify, Array.getElem?_modify]
    by_cases hi : g = i
    · rw [if_pos hi, if_pos hi, if_pos hi]
      cases heap[i]? with
      | none => rfl
      | some o => cases o <;> rfl
    · rw [if_neg hi, if_neg hi, if_neg hi]
end Go.Proofs.YtfhfiaphdgfmnaaDoor
namespace Go.Proofs.YtfhfiaphdgfmnaaDoor
open Go.RowKit
set_option maxRecDepth 100000
set_option linter.unusedVariables false
set_option linter.unusedSimpArgs false
theorem info_spotP : (Tryd.prog.info? 105).map (fun i => (i.zero, i.size, i.bytes)) = some (some (.agg #[.int .i8 0, .int .i8 0]), 2, 2) := by kernel_rfl
theorem sp2_rowR (a b : Int) : vrow 2 (spAt a b) = #[.int .i8 a, .int .i8 b] := rfl
/-- the values of a path from its end, k spots of n -/
def revV (px py : Nat → Int) (n k : Nat) : List Value := (List.range k).flatMap fun i => [.int .i8 (px (n - 1 - i)), .int .i8 (py (n - 1 - i))]
theorem revV_succ (px py : Nat → Int) (n k : Nat) : revV px py n (k + 1) = revV px py n k ++ [.int .i8 (px (n - 1 - k)), .int .i8 (py (n - 1 - k))] := by
  unfold revV; rw [List.range_succ, List.flatMap_append]; simp
end Go.Proofs.YtfhfiaphdgfmnaaDoor
namespace Go.Proofs.YtfhfiaphdgfmnaaDoor
open Go.RowKit
set_option maxRecDepth 100000
set_option linter.unusedVariables false
set_option linter.unusedSimpArgs false
theorem wlAtB (d : Nat) {F : Fence} {n : Nat} {P : Program} {ops : Array Oper} {Q : Exit → Act → World → Prop} {l : List Oper} {o : Oper} {a : Act} {w : World} (_ : o.dst = some d) (h : wpListIn F n P ops Q (o :: l) a w) : wpListIn F n P ops Q (o :: l) a w := h
theorem wlOpB (p : Op) {F : Fence} {n : Nat} {P : Program} {ops : Array Oper} {Q : Exit → Act → World → Prop} {l : List Oper} {o : Oper} {a : Act} {w : World} (_ : o.op = p) (h : wpListIn F n P ops Q (o :: l) a w) : wpListIn F n P ops Q (o :: l) a w := h
theorem valuedB {F : Fence} {n : Nat} {P : Program} {ops : Array Oper} {Q : Exit → Act → World → Prop} {rest : List Oper} {o : Oper} {a : Act} {w w' : World} {v : Value} (hgd : o.guard = none) (hd : ∀ c, o.op ≠ .defer c) (hc : ∀ c, o.op ≠ .call c)
    (hrun : (execOp a.eval o).run P w = .ok (.value v) w') (h : wpListIn F n P ops Q rest (a.put o.dst v) w') : wpListIn F n P ops Q (o :: rest) a w := by
  refine wpListIn_plain hgd fun K hK => ⟨?_, ?_⟩
  · intro g hg
    cases ho : o.op <;> first | exact absurd ho (hc _) | (simp [Oper.about, ho] at hg)
  · show o.uponIn _ n P a K Q ((o.semAt F.round a.eval).run P w)
    rw [Oper.semAt_plain F _ _ hd, hrun]
    exact hK _ _ h
theorem loadoneB {F : Fence} {n' : Nat} {P : Program} {ops : Array Oper} {rest : List Oper} {o : Oper} {a : Act} {w : World} {Q : Exit → Act → World → Prop} (hgd : o.guard = none) (ty : TypeId) (x : Operand) (ho : o.op = .load ty x)
    (b off : Nat) (hx : a.eval x = .pointer (some ⟨b, off, none⟩)) (n : Nat) (f : Nat → Value) (t : TypeId) (d : TypeDesc) (hu : P.underlying ty = some d) (hd : d.isRow = false)
    (hg : w.heap[b]? = some (.cells (vrow n f) t)) (hb : off < n)
    (h : wpListIn F n' P ops Q rest (a.put o.dst (f off)) w) : wpListIn F n' P ops Q (o :: rest) a w := by
  have hc := cell_row hg hb
  have hr : (Instr.loadAt ty (.pointer (some ⟨b, off, none⟩))).run P w = .ok (f off) w := by
    simp only [Instr.loadAt, Instr.sureAddr, Sem.run_bind, Sem.run_pure, Result.andThen_ok, loadVar, run_isAgg_row w ty d hu, hd, Bool.false_eq_true, if_false, run_load, hc]
  exact valuedB hgd (fun c hc => by rw [ho] at hc; cases hc) (fun c hc => by rw [ho] at hc; cases hc) (by unfold execOp; simp only [ho, hx, Sem.run_bind, hr, Result.andThen_ok, Sem.run_pure]) h
theorem loadmidB {F : Fence} {n' : Nat} {P : Program} {ops : Array Oper} {rest : List Oper} {o : Oper} {a : Act} {w : World} {Q : Exit → Act → World → Prop} (hgd : o.guard = none) (ty : TypeId) (x : Operand) (ho : o.op = .load ty x)
    (b off : Nat) (hx : a.eval x = .pointer (some ⟨b, off, none⟩)) (n m : Nat) (f : Nat → Value) (t : TypeId) (d : TypeDesc) (hu : P.underlying ty = some d) (hd : d.isRow = true) (hi : (P.info? ty).map (·.size) = some m)
    (hg : w.heap[b]? = some (.cells (vrow n f) t)) (hb : off + m ≤ n)
    (h : wpListIn F n' P ops Q rest (a.put o.dst (.agg (vrow m fun i => f (off + i)))) w) : wpListIn F n' P ops Q (o :: rest) a w := by
  have hr := run_loadAt_mid (P := P) w b off ty ((List.range m).map fun i => f (off + i)) d (fun j v hj => by
    have hjm : j < m := by
      by_cases c : j < m
      · exact c
      · rw [List.getElem?_eq_none (by simp; omega)] at hj; cases hj
    rw [cell_row hg (by omega)]
    simp [hjm] at hj; rw [hj]) hu hd (by simpa using hi)
  refine valuedB hgd (fun c hc => by rw [ho] at hc; cases hc) (fun c hc => by rw [ho] at hc; cases hc) (v := .agg (vrow m fun i => f (off + i))) (w' := w) (by unfold execOp; simp only [ho, hx, Sem.run_bind, hr, Result.andThen_ok, Sem.run_pure]; simp [vrow]) h
structure CkB (N b1 b2 : Nat) (X Y : World) : Prop where
  keep : KeepsFrom N X Y
  kp : Kp2 b1 b2 X Y
  s1 : b1 < Y.heap.size
  s2 : b2 < Y.heap.size
theorem CkB.start {N b1 b2 : Nat} {X : World} (h1 : b1 < X.heap.size) (h2 : b2 < X.heap.size) : CkB N b1 b2 X X := ⟨KeepsFrom.refl _ _, ⟨rfl, rfl⟩, h1, h2⟩
theorem CkB.step {N b1 b2 : Nat} {X Y Z : World} (h : CkB N b1 b2 X Y) {row : Option Nat} (hg : Y.grownBy Z row) (hr : ∀ j, row = some j → j < N ∧ j ≠ b1 ∧ j ≠ b2) : CkB N b1 b2 X Z :=
  ⟨h.keep.trans (KeepsFrom.of_grownBy hg fun j e => (hr j e).1), ⟨(hg.block b1 h.s1 fun e => (hr b1 e.symm).2.1 rfl).trans h.kp.1, (hg.block b2 h.s2 fun e => (hr b2 e.symm).2.2 rfl).trans h.kp.2⟩, Nat.lt_of_lt_of_le h.s1 hg.size, Nat.lt_of_lt_of_le h.s2 hg.size⟩
theorem size_sltB : (Tryd.prog.info? 115).map (·.size) = some 1 := by kernel_rfl
theorem leaveB {n : Nat} {P : Program} {fn : Func} {R : Ending → World → Prop} {a : Act} {W : World} {D : Nat} {v : Value} (hd : a.defers = [{ target := .collected D, args := #[] }]) (hh : W.heap[D]? = some (.deferred (some [])))
    (hres : (results fn a.tmps).run P (W.putObj D (.deferred none)) = .ok v (W.putObj D (.deferred none))) (hR : R (.returned v) (W.putObj D (.deferred none))) : bodyPostM Fence.wide n P fn R .ret a W := by
  show LeavesInM Fence.wide n P fn a.tmps R a.defers .returning W
  rw [hd]
  exact ⟨by simp, .inl ⟨D, _, rfl, run_takeDeferred hh, ⟨v, hres, hR⟩⟩⟩
theorem below_putB {w W : World} {D : Nat} (x : Obj) (h : Below w.heap.size w W) (hD : w.heap.size ≤ D) (hlt : D < W.heap.size) : Below w.heap.size w (W.putObj D x) :=
  h.grown (grownBy_putObj' W D x) h.size (fun k e => by cases e; exact hD)
/-- what the range yields at its k-th round -/
def encB (px py : Nat → Int) (n k : Nat) : Array Value := #[.int .i64 ((n : Int) - 1 - k), .agg #[.int .i8 (px (n - 1 - k)), .int .i8 (py (n - 1 - k))]]
def bkV (px py : Nat → Int) (n : Nat) (l : List Nat) : List Value := l.flatMap fun k => [.int .i8 (px (n - 1 - k)), .int .i8 (py (n - 1 - k))]
theorem bkV_range (px py : Nat → Int) (n : Nat) : bkV px py n (List.range n) = revV px py n n := rfl
theorem bkV_snoc (px py : Nat → Int) (n : Nat) (l : List Nat) (k : Nat) : bkV px py n (l ++ [k]) = bkV px py n l ++ [.int .i8 (px (n - 1 - k)), .int .i8 (py (n - 1 - k))] := by unfold bkV; simp
attribute [local go_sem] Oper.semAt_some
end Go.Proofs.YtfhfiaphdgfmnaaDoor
