import Derived.Test.YtfhfiaphdgfmnaaDoorG1
import Derived.OwnWalk
import Derived.Test.YtfhfiaphdgfmnaaDoorImplV
import Derived.Test.YtfhfiaphdgfmnaaDoorDark
import Derived.Test.YtfhfiaphdgfmnaaDoorBr
import Derived.Test.YtfhfiaphdgfmnaaDoorCodeOf
namespace Go.Proofs.YtfhfiaphdgfmnaaDoor
open Go.RowKit
set_option maxRecDepth 100000
set_option linter.unusedVariables false
set_option linter.unusedSimpArgs false
def bestStep (f : Nat → Nat → Int) (b : (Nat × Nat) × Int) (p : Sp8) : (Nat × Nat) × Int := if b.2 < f p.1.1 p.1.2 then (p.1, f p.1.1 p.1.2) else b
def best (f : Nat → Nat → Int) (l : List Sp8) : (Nat × Nat) × Int := l.foldl (bestStep f) ((0, 0), 0)
theorem best_app (f : Nat → Nat → Int) (l : List Sp8) (p : Sp8) : best f (l ++ [p]) = bestStep f (best f l) p := by simp [best, List.foldl_append]
theorem best_bd (f : Nat → Nat → Int) (M : Int) (hM : 0 ≤ M) (hf : ∀ x y, x < 8 → y < 8 → f x y ≤ M) (l : List Sp8) : 0 ≤ (best f l).2 ∧ (best f l).2 ≤ M := by
  have key : ∀ (l : List Sp8) (b : (Nat × Nat) × Int), 0 ≤ b.2 ∧ b.2 ≤ M → 0 ≤ (l.foldl (bestStep f) b).2 ∧ (l.foldl (bestStep f) b).2 ≤ M := by
    intro l
    induction l with
    | nil => intro b h; exact h
    | cons p l ih =>
      intro b h
      refine ih _ ?_
      unfold bestStep
      split
      · have := hf p.1.1 p.1.2 p.2.1 p.2.2
        exact ⟨by simp only; omega, by simpa using this⟩
      · exact h
  exact key l _ ⟨by simp, by simpa using hM⟩
/-- the answer of first -/
def firstRes (ev : Value) (b : (Nat × Nat) × Int) : Value := if b.2 = 0 then .tuple #[.agg (vrow 2 (spAt 0 0)), .int .i64 0, ev] else .tuple #[.agg (vrow 2 (spAt b.1.1 b.1.2)), .int .i64 b.2, .nilIface]
theorem firstRes_no {ev : Value} {b : (Nat × Nat) × Int} (h : b.2 = 0) : firstRes ev b = .tuple #[.agg (vrow 2 (spAt 0 0)), .int .i64 0, ev] := if_pos h
theorem firstRes_yes {ev : Value} {b : (Nat × Nat) × Int} (h : ¬ b.2 = 0) : firstRes ev b = .tuple #[.agg (vrow 2 (spAt b.1.1 b.1.2)), .int .i64 b.2, .nilIface] := if_neg h
theorem valuedIn {r n : Nat} {P : Program} {ops : Array Oper} {Q : Exit → Act → World → Prop} {rest : List Oper} {o : Oper} {a : Act} {w w' : World} {v : Value} (hgd : o.guard = none) (hd : ∀ c, o.op ≠ .defer c)
    (hrun : (execOp a.eval o).run P w = .ok (.value v) w') (h : wpListIn (Fence.wide.inRound r) n P ops Q rest (a.put o.dst v) w') : wpListIn (Fence.wide.inRound r) n P ops Q (o :: rest) a w := by
  refine wpListIn_plain hgd fun K hK => ⟨fun _ _ => trivial, ?_⟩
  show o.uponIn _ n P a K Q ((o.semAt (some r) a.eval).run P w)
  rw [Oper.semAt_eq _ _ _ hd, hrun]
  exact hK _ _ h
theorem run_loadrow {P : Program} (w : World) (ty : TypeId) (b off : Nat) (n m : Nat) (f : Nat → Value) (t : TypeId) (d : TypeDesc) (hu : P.underlying ty = some d) (hd : d.isRow = true) (hi : (P.info? ty).map (·.size) = some m)
    (hg : w.heap[b]? = some (.cells (vrow n f) t)) (hb : off + m ≤ n) : (Instr.loadAt ty (.pointer (some ⟨b, off, none⟩))).run P w = .ok (.agg (vrow m fun i => f (off + i))) w := by
  have hr := run_loadAt_mid (P := P) w b off ty ((List.range m).map fun i => f (off + i)) d (fun j v hj => by
    have hjm : j < m := by
      by_cases c : j < m
      · exact c
      · rw [List.getElem?_eq_none (by simp; omega)] at hj; cases hj
    rw [cell_row hg (by omega)]
    simp [hjm] at hj; rw [hj]) hu hd (by simpa using hi)
  rw [hr]
  simp [vrow]
theorem loadallIn {r n' : Nat} {P : Program} {ops : Array Oper} {rest : List Oper} {o : Oper} {a : Act} {w : World} {Q : Exit → Act → World → Prop} (hgd : o.guard = none) (ty : TypeId) (x : Operand) (ho : o.op = .load ty x)
    (b : Nat) (hx : a.eval x = .pointer (some ⟨b, 0, none⟩)) (n : Nat) (f : Nat → Value) (t : TypeId) (d : TypeDesc) (hu : P.underlying ty = some d) (hd : d.isRow = true) (hi : (P.info? ty).map (·.size) = some n)
    (hg : w.heap[b]? = some (.cells (vrow n f) t))
    (h : wpListIn (Fence.wide.inRound r) n' P ops Q rest (a.put o.dst (.agg (vrow n f))) w) : wpListIn (Fence.wide.inRound r) n' P ops Q (o :: rest) a w := by
  have hr : (Instr.loadAt ty (.pointer (some ⟨b, 0, none⟩))).run P w = .ok (.agg (vrow n f)) w := by simpa using run_loadrow (P := P) w ty b 0 n n f t d hu hd hi hg (by omega)
  exact valuedIn hgd (fun c hc => by rw [ho] at hc; cases hc) (by unfold execOp; simp only [ho, hx, Sem.run_bind, hr, Result.andThen_ok, Sem.run_pure]) h
theorem setRow_self {w : World} {g : Nat} {cs : Array Value} {t : TypeId} (h : w.heap[g]? = some (.cells cs t)) : w.setRow g cs = w := by
  have h' := h
  cases w with
  | mk heap os tape drawn output =>
    simp only [World.setRow] at h ⊢
    congr 1
    apply Array.ext_getElem?
    intro i
    rw [Array.getElem?_modify]
    by_cases hi : g = i
    · subst hi
      rw [if_pos rfl, h]
      rfl
    · rw [if_neg hi]
theorem rw_fn : (Tryd.prog.underlying 152).map (·.isRow) = some false := by kernel_rfl
theorem size_fn : (Tryd.prog.info? 152).map (·.size) = some 1 := by kernel_rfl
theorem size_int64 : (Tryd.prog.info? 2).map (·.size) = some 1 := by kernel_rfl
theorem rw_int64 : (Tryd.prog.underlying 2).map (·.isRow) = some false := by kernel_rfl
theorem res_row3 {P : Program} {fn : Func} {tmps : Array Value} {w : World} {p u q : Tmp} {ty : TypeId} (hr : fn.results = #[.cell p ty, .tmp u, .tmp q]) (b : Nat) (n : Nat) (f : Nat → Value) (t : TypeId) (d : TypeDesc) (hu : P.underlying ty = some d) (hd : d.isRow = true) (hi : (P.info? ty).map (·.size) = some n) (v v' : Value)
    (hp : tmps.getD p undef = .pointer (some ⟨b, 0, none⟩)) (hv : tmps.getD u undef = v) (hv' : tmps.getD q undef = v') (hg : w.heap[b]? = some (.cells (vrow n f) t)) : (results fn tmps).run P w = .ok (.tuple #[.agg (vrow n f), v, v']) w := by
  have hl := run_loadVar_row (P := P) w b t ty (vrow n f) (0, 0) d hg hu (by cases d <;> first | rfl | exact hd) (by rw [vrow_size]; exact hi)
  have hp' : tmps[p]?.getD undef = .pointer (some ⟨b, 0, none⟩) := by simpa using hp
  have hv1 : tmps[u]?.getD undef = v := by simpa using hv
  have hv2 : tmps[q]?.getD undef = v' := by simpa using hv'
  simp [results, hr, hp', hv1, hv2, asAddr, hl, Result.andThen]
end Go.Proofs.YtfhfiaphdgfmnaaDoor
