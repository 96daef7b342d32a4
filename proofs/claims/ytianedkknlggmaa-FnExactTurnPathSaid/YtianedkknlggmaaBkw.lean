import Derived.OwnWalkIn
import Derived.RangeFuncNested
import Derived.RangeFuncLeaves
import Derived.Test.YtianedkknlggmaaPathK
import Derived.Test.YtianedkknlggmaaPathR
import Derived.Test.YtianedkknlggmaaCells
namespace Go.Proofs.Ytianedkknlggmaa
open Go.RowKit
set_option maxRecDepth 100000
set_option linter.unusedVariables false
set_option linter.unusedSimpArgs false
theorem wlAtB (d : Nat) {F : Fence} {n : Nat} {P : Program} {ops : Array Oper} {Q : Exit → Act → World → Prop} {l : List Oper} {o : Oper} {a : Act} {w : World} (_ : o.dst = some d) (h : wpListIn F n P ops Q (o :: l) a w) : wpListIn F n P ops Q (o :: l) a w := h
theorem wlOpB (p : Op) {F : Fence} {n : Nat} {P : Program} {ops : Array Oper} {Q : Exit → Act → World → Prop} {l : List Oper} {o : Oper} {a : Act} {w : World} (_ : o.op = p) (h : wpListIn F n P ops Q (o :: l) a w) : wpListIn F n P ops Q (o :: l) a w := h
theorem valuedB {F : Fence} {n : Nat} {P : Program} {ops : Array Oper} {Q : Exit → Act → World → Prop} {rest : List Oper} {o : Oper} {a : Act} {w w' : World} {v : Value} (hgd : o.guard = none) (hd : ∀ c, o.op ≠ .defer c) (hc : ∀ c, o.op ≠ .call c)
    (hrun : (execOp a.eval o).run P w = .ok (.value v) w') (h : wpListIn F n P ops Q rest (a.put o.dst v) w') : wpListIn F n P ops Q (o :: rest) a w := by
  refine wpListIn_plain hgd fun K hK => ⟨?_, ?_⟩
  · intro g hg
    cases ho : o.op <;> first | exact absurd ho (hc _) | (simp [Oper.about, ho] at hg)
  · show o.uponIn _ n P a K Q ((o.semAt F.round a.eval).run P w)
    rw [Oper.semAt_plain F _ _ hd, hrun]
    exact hK _ _ h
theorem loadoneB {F : Fence} {n' : Nat} {P : Program} {ops : Array Oper} {rest : List Oper} {o : Oper} {a : Act} {w : World} {Q : Exit → Act → World → Prop} (hgd : o.guard = none) (ty : TypeId) (x : Operand) (ho : o.op = .load ty x)
    (b off : Nat) (hx : a.eval x = .pointer (some ⟨b, off, none⟩)) (n : Nat) (f : Nat → Value) (t : TypeId) (d : TypeDesc) (hu : P.underlying ty = some d) (hd : d.isRow = false)
    (hg : w.heap[b]? = some (.cells (vrow n f) t)) (hb : off < n)
    (h : wpListIn F n' P ops Q rest (a.put o.dst (f off)) w) : wpListIn F n' P ops Q (o :: rest) a w := by
  have hc := cell_row hg hb
  have hr : (Instr.loadAt ty (.pointer (some ⟨b, off, none⟩))).run P w = .ok (f off) w := by
    simp only [Instr.loadAt, Instr.sureAddr, Sem.run_bind, Sem.run_pure, Result.andThen_ok, loadVar, run_isAgg_row w ty d hu, hd, Bool.false_eq_true, if_false, run_load, hc]
  exact valuedB hgd (fun c hc => by rw [ho] at hc; cases hc) (fun c hc => by rw [ho] at hc; cases hc) (by unfold execOp; simp only [ho, hx, Sem.run_bind, hr, Result.andThen_ok, Sem.run_pure]) h
theorem loadmidB {F : Fence} {n' : Nat} {P : Program} {ops : Array Oper} {rest : List Oper} {o : Oper} {a : Act} {w : World} {Q : Exit → Act → World → Prop} (hgd : o.guard = none) (ty : TypeId) (x : Operand) (ho : o.op = .load ty x)
    (b off : Nat) (hx : a.eval x = .pointer (some ⟨b, off, none⟩)) (n m : Nat) (f : Nat → Value) (t : TypeId) (d : TypeDesc) (hu : P.underlying ty = some d) (hd : d.isRow = true) (hi : (P.info? ty).map (·.size) = some m)
    (hg : w.heap[b]? = some (.cells (vrow n f) t)) (hb : off + m ≤ n)
    (h : wpListIn F n' P ops Q rest (a.put o.dst (.agg (vrow m fun i => f (off + i)))) w) : wpListIn F n' P ops Q (o :: rest) a w := by
  have hr := run_loadAt_mid (P := P) w b off ty ((List.range m).map fun i => f (off + i)) d (fun j v hj => by
    have hjm : j < m := by
      by_cases c : j < m
      · exact c
      · rw [List.getElem?_eq_none (by simp; omega)] at hj; cases hj
    rw [cell_row hg (by omega)]
    simp [hjm] at hj; rw [hj]) hu hd (by simpa using hi)
  refine valuedB hgd (fun c hc => by rw [ho] at hc; cases hc) (fun c hc => by rw [ho] at hc; cases hc) (v := .agg (vrow m fun i => f (off + i))) (w' := w) (by unfold execOp; simp only [ho, hx, Sem.run_bind, hr, Result.andThen_ok, Sem.run_pure]; simp [vrow]) h
structure CkB (N b1 b2 : Nat) (X Y : World) : Prop where
  keep : KeepsFrom N X Y
  kp : Kp2 b1 b2 X Y
  s1 : b1 < Y.heap.size
  s2 : b2 < Y.heap.size
theorem CkB.start {N b1 b2 : Nat} {X : World} (h1 : b1 < X.heap.size) (h2 : b2 < X.heap.size) : CkB N b1 b2 X X := ⟨KeepsFrom.refl _ _, ⟨rfl, rfl⟩, h1, h2⟩
theorem CkB.step {N b1 b2 : Nat} {X Y Z : World} (h : CkB N b1 b2 X Y) {row : Option Nat} (hg : Y.grownBy Z row) (hr : ∀ j, row = some j → j < N ∧ j ≠ b1 ∧ j ≠ b2) : CkB N b1 b2 X Z :=
  ⟨h.keep.trans (KeepsFrom.of_grownBy hg fun j e => (hr j e).1), ⟨(hg.block b1 h.s1 fun e => (hr b1 e.symm).2.1 rfl).trans h.kp.1, (hg.block b2 h.s2 fun e => (hr b2 e.symm).2.2 rfl).trans h.kp.2⟩, Nat.lt_of_lt_of_le h.s1 hg.size, Nat.lt_of_lt_of_le h.s2 hg.size⟩
theorem size_sltB : (Try.prog.info? 45).map (·.size) = some 1 := by kernel_rfl
theorem leaveB {n : Nat} {P : Program} {fn : Func} {R : Ending → World → Prop} {a : Act} {W : World} {D : Nat} {v : Value} (hd : a.defers = [{ target := .collected D, args := #[] }]) (hh : W.heap[D]? = some (.deferred (some [])))
    (hres : (results fn a.tmps).run P (W.putObj D (.deferred none)) = .ok v (W.putObj D (.deferred none))) (hR : R (.returned v) (W.putObj D (.deferred none))) : bodyPostM Fence.wide n P fn R .ret a W := by
  show LeavesInM Fence.wide n P fn a.tmps R a.defers .returning W
  rw [hd]
  exact ⟨by simp, .inl ⟨D, _, rfl, run_takeDeferred hh, ⟨v, hres, hR⟩⟩⟩
theorem below_putB {w W : World} {D : Nat} (x : Obj) (h : Below w.heap.size w W) (hD : w.heap.size ≤ D) (hlt : D < W.heap.size) : Below w.heap.size w (W.putObj D x) :=
  h.grown (grownBy_putObj' W D x) h.size (fun k e => by cases e; exact hD)
/-- what the range yields at its k-th round -/
def encB (px py : Nat → Int) (n k : Nat) : Array Value := #[.int .i64 ((n : Int) - 1 - k), .agg #[.int .i8 (px (n - 1 - k)), .int .i8 (py (n - 1 - k))]]
def bkV (px py : Nat → Int) (n : Nat) (l : List Nat) : List Value := l.flatMap fun k => [.int .i8 (px (n - 1 - k)), .int .i8 (py (n - 1 - k))]
theorem bkV_range (px py : Nat → Int) (n : Nat) : bkV px py n (List.range n) = revV px py n n := rfl
theorem bkV_snoc (px py : Nat → Int) (n : Nat) (l : List Nat) (k : Nat) : bkV px py n (l ++ [k]) = bkV px py n l ++ [.int .i8 (px (n - 1 - k)), .int .i8 (py (n - 1 - k))] := by unfold bkV; simp
theorem back_any (v : Value) (hv : v.oneCell' = true) (w : World) : Calls Try.prog 70 #[v] w fun e w' => e = .returned (.func (.func 101) #[] #[.pointer (some ⟨w.heap.size, 0, none⟩)]) ∧ w' = w.alloc (.cells #[v] 45) := by
  have hc : v.cells = #[v] := by cases v <;> first | rfl | cases hv
  go_enter Try.func70, Try.ntmps70
  go_wp2
  go_ret
  exact ⟨rfl, by first | rfl | rw [hc]⟩
attribute [local go_sem] Oper.semAt_some
set_option maxRecDepth 100000 in
set_option maxHeartbeats 1000000 in
theorem back1_in (F : Fence) (m : Nat) (hF : F.fn 101) (hro : F.round = none) (hm : 1 ≤ m) (l b D n : Nat) (px py : Nat → Int) (hn : n ≤ 1048576) (J Jx : List Nat → World → Prop)
    (hY : ∀ pre x W, J pre W → pre.length < n → YieldAt F (m - 1) Try.prog l (encB px py n x) W fun e W' =>
      (e = .returned (.bool true) ∧ J (pre ++ [x]) W' ∧ Kp2 b D W W') ∨ (e = .returned (.bool false) ∧ Jx (pre ++ [x]) W'))
    (W : World) (h1 : W.heap[b]? = some (.cells (vrow 1 fun _ => .slice (some ⟨D, 0, none⟩) n n) 45)) (h2 : W.heap[D]? = some (.cells (vrow (n * 2) (spf px py)) 93)) (h0 : J [] W) :
    CallsIn F m Try.prog 101 #[.func (.yield l) #[] #[], .pointer (some ⟨b, 0, none⟩)] W fun e W' => (∃ v, e = .returned v) ∧
      ((∃ ys, ys = List.range n ∧ J ys W') ∨ (∃ pre, True ∧ Jx pre W')) := by
  have hw : ∀ k : Int, -1 ≤ k → k ≤ 4000000 → IntKind.i64.wrap k = k := fun k h1 h2 => IntWalk.i64_in k (by omega)
  refine callsIn_of_wp Try.func101 rfl hF ?_ hro
  simp only [Try.ntmps101, List.size_toArray, List.length_cons, List.length_nil, Nat.reduceAdd, Nat.reduceSub, Array.replicate_succ, Array.replicate_zero, List.push_toArray, List.append_toArray, List.nil_append, List.cons_append]
  have H1 := Go.Lib.hid h1; have H2 := Go.Lib.hid h2; clear h1 h2
  gi_wp2_with (first
    | (with_reducible refine wlAtB 4 rfl ?_; refine loadoneB rfl 45 (.tmp 1) rfl b 0 rfl 1 (fun _ => .slice (some ⟨D, 0, none⟩) n n) 45 _ Try.underlying45 rfl H1.out (by omega) ?_))

  gi_loopw [3] (fun iv wr => ∃ k : Nat, k ≤ n ∧ iv = .int .i64 ((n : Int) - 1 - k) ∧ J (List.range k) wr ∧ wr.heap[b]? = some (.cells (vrow 1 fun _ => .slice (some ⟨D, 0, none⟩) n n) 45) ∧ wr.heap[D]? = some (.cells (vrow (n * 2) (spf px py)) 93)) (fun iv _ => (intOf iv + 1).toNat)
  case atStart => exact ⟨0, by omega, by first | rfl | simp, h0, H1.out, H2.out⟩
  case round =>
    clear H1 H2 h0
    obtain ⟨k, hk, rfl, hJ, h1, h2⟩ := hrel
    have H1 := Go.Lib.hid h1; have H2 := Go.Lib.hid h2; clear h1 h2
    by_cases hlt : k < n
    · obtain ⟨fn, tmps, assign, body, hy, hR⟩ := hY _ k wr hJ (by simpa using hlt)
      obtain ⟨q, hq⟩ : ∃ q, q < n ∧ n - 1 - k = q ∧ k + 1 + q = n := ⟨n - k - 1, by omega, by omega, by omega⟩
      obtain ⟨hqn, hq1, hq2⟩ := hq
      have em : ((n : Int) - 1 - k) = q := by omega
      unfold encB at hy
      rw [hq1, em] at hy
      rw [em]
      have HM2 := Go.Lib.hid hq2
      have hge : decide ((0 : Int) ≤ (q : Int)) = true := by simp
      have hix : (q : Int) < (n : Int) := by omega
      clear em hq1 hq2 hJ
      gi_wp2_with (first
        | (with_reducible refine wlAtB 13 rfl ?_; refine loadoneB rfl 45 (.tmp 1) rfl b 0 rfl 1 (fun _ => .slice (some ⟨D, 0, none⟩) n n) 45 _ Try.underlying45 rfl H1.out (by omega) ?_)
        | (with_reducible refine wlAtB 16 rfl ?_; refine loadmidB rfl 93 (.tmp 15) rfl D (q * 2) rfl (n * 2) 2 (spf px py) 93 _ Try.underlying93 rfl size_spot H2.out (by omega) ?_; rw [spf_two, sp2_rowR]))
      refine hR.mono ?_
      rintro e W3 (⟨rfl, hJ3, hk3⟩ | ⟨rfl, hJx3⟩)
      · have H1' := Go.Lib.hid (hk3.1.trans H1.out); have H2' := Go.Lib.hid (hk3.2.trans H2.out)
        clear hk3 H1 H2
        gi_wp2
        go_roundw
        case rel => exact ⟨k + 1, by omega, by have h := HM2.out; congr 1; omega, by rw [List.range_succ]; exact hJ3, H1'.out, H2'.out⟩
        case measure => simp [intOf]
      · gi_wp2
        refine bodyPost_ret (results_none rfl _ _ _) rfl ?_
        exact ⟨⟨_, rfl⟩, .inr ⟨_, trivial, hJx3⟩⟩
    · obtain rfl : k = n := by omega
      have hge : decide ((0 : Int) ≤ ((k : Int) - 1 - k)) = false := by simp; omega
      gi_wp2
      go_end0
      exact ⟨⟨_, rfl⟩, .inl ⟨_, rfl, hJ⟩⟩
theorem back_seq (m : Nat) (hm : 1 ≤ m) (b D n : Nat) (px py : Nat → Int) (hn : n ≤ 1048576) (w : World) (h1 : w.heap[b]? = some (.cells (vrow 1 fun _ => .slice (some ⟨D, 0, none⟩) n n) 45)) (h2 : w.heap[D]? = some (.cells (vrow (n * 2) (spf px py)) 93)) :
    SeqStopsK Fence.wide m Try.prog 101 #[.pointer (some ⟨b, 0, none⟩)] (encB px py n) (Kp2 b D) (fun ys => ys = List.range n) (fun _ => True) n w := fun l J Jx W hW _ _ hY h0 =>
  back1_in Fence.wide m trivial rfl hm l b D n px py hn J Jx hY W ((hW.block _ (row_lt h1)).trans h1) ((hW.block _ (row_lt h2)).trans h2) h0
end Go.Proofs.Ytianedkknlggmaa
